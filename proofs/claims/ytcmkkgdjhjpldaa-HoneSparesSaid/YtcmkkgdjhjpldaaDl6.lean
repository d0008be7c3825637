/-
  A part of the texts that the claim builds on: see the last one.
-/
import Derived.Test.YtcmkkgdjhjpldaaDl5
set_option linter.unusedSimpArgs false
set_option linter.unusedVariables false
namespace Go.Proofs.Ytcmkkgdjhjpldaa.Eng
open Go.RowKit
theorem rowOfB_no {L : List Int} {k : Nat} {x : Int} (hx : L[k]? = some x) (h : x < -1 ∨ 100 < x) : rowOfB L = false := by
  have : fromK (-1) 100 L = false := allK_not hx (p := fun x => inK x (-1) 100) (decide_eq_false fun h2 => by omega)
  simp [rowOfB, this]
theorem rowOfB_up {L : List Int} {j : Nat} {x y : Int} (hj : j + 1 < 7) (hy : L[j]? = some y) (hx : L[j + 1]? = some x) (h : y < x) : rowOfB L = false := by
  cases hB : rowOfB L with
  | false => rfl
  | true =>
    simp only [rowOfB, Bool.and_eq_true] at hB
    have h2 := hB.2
    rw [descTo, List.all_eq_true] at h2
    have h3 := h2 (j + 1) (by rw [List.mem_range]; omega)
    rw [Nat.add_sub_cancel, atL_of hx, atL_of hy] at h3
    simp at h3
    omega
set_option maxRecDepth 100000 in
set_option maxHeartbeats 4000000 in
theorem refIsRow_c (L : List Int) (hl : L.length ≤ 1000000) : ACall Try.prog 42 [intL L] (bD (rowOfB L)) := by
  obtain ⟨r, hr⟩ : ∃ r, r = rowOfB L := ⟨_, rfl⟩
  rw [← hr]
  by_cases h7 : L.length = 7
  · have h7i : (L.length : Int) = 7 := by omega
    refine acallK tabOk Try.func42 rfl rfl (show 1 ≤ _ by decide) rfl fun _ => ?_; simp only [Try.ntmps42]
    repeat (first | (with_reducible first | refine zq1 fun _ => ?_ | refine zq2 fun _ => ?_ | refine zq3 ?_) | ((first | refine zq4 ?_ | refine zq5 fun _ _ => ?_ | refine zq6 ?_); simp [-getElem?_pos, z0, z1, z2, h7i]) | ((first | refine AWp.ret ?_ | refine AWp.skip ?_ | refine AWp.exit ?_); try simp only [thenP]) | (with_reducible refine zq7 ?_; simp only [blockP, thenP, reduceIte]) | with_reducible refine zq8 ?_)
    refine AWp.loopK (ι := { k : Nat // k ≤ 7 ∧ fromK (-1) 100 (L.take k) = true ∧ descTo L k = true }) (n := 0) (fun k => [(0, .d (intL L)), (3, .d (iD k.1))]) (fun _ => []) (fun k => 7 - k.1) ⟨0, by omega, rfl, rfl⟩ [] ?_ ?_
    · refine ⟨by rfl, by simp [], by simp [or_imp, forall_and, ] <;> (try (intro _hne; simp [_hne])), by decide⟩
    rintro ⟨k, hk, hf, hd⟩ kk
    have w1 : IntKind.i64.wrap ((k : Int) + 1) = (k : Int) + 1 := wrap64_in (by omega)
    by_cases hlt : k < 7
    · have hk7 : (k : Int) < 7 := by omega
      have hkL : k < L.length := by omega
      obtain ⟨x, hx⟩ : ∃ x, L[k]? = some x := ⟨_, List.getElem?_eq_getElem hkL⟩
      have hax := atL_of hx
      by_cases g1 : x < -1
      · have hr' : r = false := by rw [hr]; exact rowOfB_no hx (.inl g1)
        repeat (first | (with_reducible first | refine zq1 fun _ => ?_ | refine zq2 fun _ => ?_ | refine zq3 ?_) | ((first | refine zq4 ?_ | refine zq5 fun _ _ => ?_ | refine zq6 ?_); simp [-getElem?_pos, z0, z1, z2, hkL, hk7, hx, g1, h7]) | ((first | refine AWp.ret ?_ | refine AWp.skip ?_ | refine AWp.exit ?_); try simp only [thenP]) | (with_reducible refine zq7 ?_; simp only [blockP, thenP, reduceIte]) | with_reducible refine zq8 ?_)
        (first | refine RR.ret ?_ | refine RR.normal ?_); simp [hr']
      by_cases g2 : 100 < x
      · have hr' : r = false := by rw [hr]; exact rowOfB_no hx (.inr g2)
        repeat (first | (with_reducible first | refine zq1 fun _ => ?_ | refine zq2 fun _ => ?_ | refine zq3 ?_) | ((first | refine zq4 ?_ | refine zq5 fun _ _ => ?_ | refine zq6 ?_); simp [-getElem?_pos, z0, z1, z2, hkL, hk7, hx, g1, g2, h7]) | ((first | refine AWp.ret ?_ | refine AWp.skip ?_ | refine AWp.exit ?_); try simp only [thenP]) | (with_reducible refine zq7 ?_; simp only [blockP, thenP, reduceIte]) | with_reducible refine zq8 ?_)
        (first | refine RR.ret ?_ | refine RR.normal ?_); simp [hr']
      have hf' : fromK (-1) 100 (L.take (k + 1)) = true := by
        rw [fromK, allK_take hx (fun x => inK x (-1) 100), Bool.and_eq_true]
        exact ⟨hf, decide_eq_true (by omega)⟩
      rcases k with _ | j
      · have wk1 : IntKind.i64.wrap 1 = 1 := by decide
        repeat (first | (with_reducible first | refine zq1 fun _ => ?_ | refine zq2 fun _ => ?_ | refine zq3 ?_) | ((first | refine zq4 ?_ | refine zq5 fun _ _ => ?_ | refine zq6 ?_); simp [-getElem?_pos, z0, z1, z2, hkL, hk7, hx, g1, g2, h7, wk1]) | ((first | refine AWp.ret ?_ | refine AWp.skip ?_ | refine AWp.exit ?_); try simp only [thenP]) | (with_reducible refine zq7 ?_; simp only [blockP, thenP, reduceIte]) | with_reducible refine zq8 ?_)
        refine LL.go ⟨1, by omega, hf', rfl⟩ [] ⟨by rfl, by simp [], by simp [or_imp, forall_and, ] <;> (try (intro _hne; simp [_hne])), by decide⟩ ?_
        simp
      · obtain ⟨y, hy⟩ : ∃ y, L[j]? = some y := ⟨_, List.getElem?_eq_getElem (by omega)⟩
        have w2 : IntKind.i64.wrap (j : Int) = (j : Int) := wrap64_in (by omega)
        have w3 : IntKind.i64.wrap ((j : Int) + 1 + 1) = (j : Int) + 1 + 1 := wrap64_in (by omega)
        have hk10 : 0 ≤ (j : Int) + 1 := by omega
        have hk11 : (0 : Int) < (j : Int) + 1 := by omega
        have hk8 : (j : Int) + 1 < 7 := by omega
        have hjL : j < L.length := by omega
        by_cases g3 : y < x
        · have hr' : r = false := by rw [hr]; exact rowOfB_up (by omega) hy hx g3
          repeat (first | (with_reducible first | refine zq1 fun _ => ?_ | refine zq2 fun _ => ?_ | refine zq3 ?_) | ((first | refine zq4 ?_ | refine zq5 fun _ _ => ?_ | refine zq6 ?_); simp [-getElem?_pos, z0, z1, z2, hkL, hk7, hx, hy, g1, g2, g3, h7, w2, w3, hk8, hk10, hk11, hjL]) | ((first | refine AWp.ret ?_ | refine AWp.skip ?_ | refine AWp.exit ?_); try simp only [thenP]) | (with_reducible refine zq7 ?_; simp only [blockP, thenP, reduceIte]) | with_reducible refine zq8 ?_)
          (first | refine RR.ret ?_ | refine RR.normal ?_); simp [hr']
        · have hd' : descTo L (j + 1 + 1) = true := by
            rw [descTo_succ, hd, Nat.add_sub_cancel, hax, atL_of hy]
            simp
            omega
          repeat (first | (with_reducible first | refine zq1 fun _ => ?_ | refine zq2 fun _ => ?_ | refine zq3 ?_) | ((first | refine zq4 ?_ | refine zq5 fun _ _ => ?_ | refine zq6 ?_); simp [-getElem?_pos, z0, z1, z2, hkL, hk7, hx, hy, g1, g2, g3, h7, w2, w3, hk8, hk10, hk11, hjL]) | ((first | refine AWp.ret ?_ | refine AWp.skip ?_ | refine AWp.exit ?_); try simp only [thenP]) | (with_reducible refine zq7 ?_; simp only [blockP, thenP, reduceIte]) | with_reducible refine zq8 ?_)
          refine LL.go ⟨j + 1 + 1, by omega, hf', hd'⟩ [] ⟨by rfl, by simp [], by simp [or_imp, forall_and, ] <;> (try (intro _hne; simp [_hne])), by decide⟩ ?_
          simp; omega
    · obtain rfl : k = 7 := by omega
      have hr' : r = true := by
        rw [hr]
        rw [← h7, List.take_length] at hf
        simp [rowOfB, hf, h7, hd]
      repeat (first | (with_reducible first | refine zq1 fun _ => ?_ | refine zq2 fun _ => ?_ | refine zq3 ?_) | ((first | refine zq4 ?_ | refine zq5 fun _ _ => ?_ | refine zq6 ?_); simp [-getElem?_pos, z0, z1, z2, ]) | ((first | refine AWp.ret ?_ | refine AWp.skip ?_ | refine AWp.exit ?_); try simp only [thenP]) | (with_reducible refine zq7 ?_; simp only [blockP, thenP, reduceIte]) | with_reducible refine zq8 ?_)
      (first | refine RR.ret ?_ | refine RR.normal ?_); simp [hr']
  · have hr' : r = false := by rw [hr]; simp [rowOfB, h7]
    have h7i : ¬ (L.length : Int) = 7 := by omega
    refine acallK tabOk Try.func42 rfl rfl (show 1 ≤ _ by decide) rfl fun _ => ?_; simp only [Try.ntmps42]
    repeat (first | (with_reducible first | refine zq1 fun _ => ?_ | refine zq2 fun _ => ?_ | refine zq3 ?_) | ((first | refine zq4 ?_ | refine zq5 fun _ _ => ?_ | refine zq6 ?_); simp [-getElem?_pos, z0, z1, z2, h7i]) | ((first | refine AWp.ret ?_ | refine AWp.skip ?_ | refine AWp.exit ?_); try simp only [thenP]) | (with_reducible refine zq7 ?_; simp only [blockP, thenP, reduceIte]) | with_reducible refine zq8 ?_)
    (first | refine RR.ret ?_ | refine RR.normal ?_); simp [hr']
def holdsB (g : HE) (L : List Int) : Bool := (List.range (g.burr.toNat + 1)).all fun b => decide (g.depth ≤ atL L b)
theorem all_to {p : Nat → Bool} {k n : Nat} (h : (List.range n).all p = true) (hk : k < n) : p k = true := by
  rw [List.all_eq_true] at h
  exact h k (List.mem_range.2 hk)
theorem all_succ (p : Nat → Bool) (k : Nat) : (List.range (k + 1)).all p = ((List.range k).all p && p k) := by
  simp [List.range_succ]
theorem all_no {p : Nat → Bool} {k n : Nat} (hk : k < n) (h : p k = false) : (List.range n).all p = false := by
  cases ha : (List.range n).all p with
  | false => rfl
  | true => rw [all_to ha hk] at h; cases h
set_option maxRecDepth 100000 in
set_option maxHeartbeats 4000000 in
theorem refHolds_c (g : HE) (gg : GoodE g) (L : List Int) (h7 : L.length = 7) : ACall Try.prog 64 [edgD g, intL L] (bD (holdsB g L)) := by
  obtain ⟨r, hr⟩ : ∃ r, r = holdsB g L := ⟨_, rfl⟩
  rw [← hr]
  obtain ⟨h1, h2, h3, h4⟩ := gg
  obtain ⟨B, hB⟩ := Int.eq_ofNat_of_zero_le h3
  have hBn : g.burr.toNat = B := by omega
  rw [holdsB, hBn] at hr
  refine acallK tabOk Try.func64 rfl rfl (show 2 ≤ _ by decide) rfl fun _ => ?_; simp only [Try.ntmps64]
  repeat (first | (with_reducible first | refine zq1 fun _ => ?_ | refine zq2 fun _ => ?_ | refine zq3 ?_) | ((first | refine zq4 ?_ | refine zq5 fun _ _ => ?_ | refine zq6 ?_); simp [-getElem?_pos, z0, z1, z2, ]) | ((first | refine AWp.ret ?_ | refine AWp.skip ?_ | refine AWp.exit ?_); try simp only [thenP]) | (with_reducible refine zq7 ?_; simp only [blockP, thenP, reduceIte]) | with_reducible refine zq8 ?_)
  refine AWp.loopK (ι := { k : Nat // k ≤ B + 1 ∧ ((List.range k).all fun b => decide (g.depth ≤ atL L b)) = true }) (n := 1) (fun k => [(1, .d (intL L)), (2, .ptr 0 0 0), (5, .d (iD k.1))]) (fun _ => [(0, .box 24 [.d (iD g.depth), .d (iD g.burr)] false)]) (fun k => B + 1 - k.1) ⟨0, by omega, rfl⟩ [0] ?_ ?_
  · refine ⟨by rfl, by simp [], by simp [or_imp, forall_and, ] <;> (try (intro _hne; simp [_hne])), by decide⟩
  rintro ⟨k, hk, hall⟩ kk
  have w1 : IntKind.i64.wrap ((k : Int) + 1) = (k : Int) + 1 := wrap64_in (by omega)
  by_cases hlt : k < B + 1
  · have hkb : (k : Int) ≤ g.burr := by omega
    have hkL : k < L.length := by omega
    have hk7 : k < 7 := by omega
    obtain ⟨x, hx⟩ : ∃ x, L[k]? = some x := ⟨_, List.getElem?_eq_getElem hkL⟩
    have hax := atL_of hx
    have hs := all_succ (fun b => decide (g.depth ≤ atL L b)) k
    rw [hall, Bool.true_and, hax] at hs
    by_cases gx : x < g.depth
    · have hr' : r = false := by rw [hr]; exact all_no hlt (by rw [hax]; exact decide_eq_false (by omega))
      repeat (first | (with_reducible first | refine zq1 fun _ => ?_ | refine zq2 fun _ => ?_ | refine zq3 ?_) | ((first | refine zq4 ?_ | refine zq5 fun _ _ => ?_ | refine zq6 ?_); simp [-getElem?_pos, z0, z1, z2, hkb, hkL, hk7, hx, gx, h7]) | ((first | refine AWp.ret ?_ | refine AWp.skip ?_ | refine AWp.exit ?_); try simp only [thenP]) | (with_reducible refine zq7 ?_; simp only [blockP, thenP, reduceIte]) | with_reducible refine zq8 ?_)
      (first | refine RR.ret ?_ | refine RR.normal ?_); simp [hr']
    · repeat (first | (with_reducible first | refine zq1 fun _ => ?_ | refine zq2 fun _ => ?_ | refine zq3 ?_) | ((first | refine zq4 ?_ | refine zq5 fun _ _ => ?_ | refine zq6 ?_); simp [-getElem?_pos, z0, z1, z2, hkb, hkL, hk7, hx, gx, h7, w1]) | ((first | refine AWp.ret ?_ | refine AWp.skip ?_ | refine AWp.exit ?_); try simp only [thenP]) | (with_reducible refine zq7 ?_; simp only [blockP, thenP, reduceIte]) | with_reducible refine zq8 ?_)
      refine LL.go ⟨k + 1, hlt, by rw [hs]; exact decide_eq_true (by omega)⟩ [0] ⟨by rfl, by simp [], by simp [or_imp, forall_and, ] <;> (try (intro _hne; simp [_hne])), by decide⟩ ?_
      simp; omega
  · obtain rfl : k = B + 1 := by omega
    have hkb : ¬ ((B : Int) + 1 ≤ g.burr) := by omega
    have hr' : r = true := by rw [hr, hall]
    repeat (first | (with_reducible first | refine zq1 fun _ => ?_ | refine zq2 fun _ => ?_ | refine zq3 ?_) | ((first | refine zq4 ?_ | refine zq5 fun _ _ => ?_ | refine zq6 ?_); simp [-getElem?_pos, z0, z1, z2, hkb]) | ((first | refine AWp.ret ?_ | refine AWp.skip ?_ | refine AWp.exit ?_); try simp only [thenP]) | (with_reducible refine zq7 ?_; simp only [blockP, thenP, reduceIte]) | with_reducible refine zq8 ?_)
    (first | refine RR.ret ?_ | refine RR.normal ?_); simp [hr']
def ixE (i : Nat) : HE := ⟨((i / 7 : Nat) : Int), ((i % 7 : Nat) : Int)⟩
def intoB (L : List Int) (e : HE) (s : HS) : Bool := canS s e && decide ((strE s e).depth ≤ atL L (strE s e).burr.toNat)
def leaveB (l : List HS) (L L2 : List Int) (i : Nat) : Bool := decide (((i / 7 : Nat) : Int) ≤ atL L (i % 7)) || l.all fun s => !intoB L2 (ixE i) s
def leavesB (l : List HS) (L L2 : List Int) : Bool := (List.range 707).all (leaveB l L L2)
theorem ixE_good {i : Nat} (h : i < 707) : GoodE (ixE i) := by
  refine ⟨?_, ?_, ?_, ?_⟩ <;> simp only [ixE] <;> omega
set_option maxRecDepth 100000 in
set_option maxHeartbeats 8000000 in
theorem refLeaves_c (l : List HS) (hl : l.all okS = true) (hn6 : l.length ≤ 6) (L L2 : List Int) (h7 : L.length = 7) (h72 : L2.length = 7) : ACall Try.prog 65 [boxD l, intL L, intL L2] (bD (leavesB l L L2)) := by
  obtain ⟨r, hr⟩ : ∃ r, r = leavesB l L L2 := ⟨_, rfl⟩
  rw [← hr]
  refine acallK tabOk Try.func65 rfl rfl (show 3 ≤ _ by decide) rfl fun _ => ?_; simp only [Try.ntmps65]
  repeat (first | (with_reducible first | refine zq1 fun _ => ?_ | refine zq2 fun _ => ?_ | refine zq3 ?_) | ((first | refine zq4 ?_ | refine zq5 fun _ _ => ?_ | refine zq6 ?_); simp [-getElem?_pos, z0, z1, z2, ]) | ((first | refine AWp.ret ?_ | refine AWp.skip ?_ | refine AWp.exit ?_); try simp only [thenP]) | (with_reducible refine zq7 ?_; simp only [blockP, thenP, reduceIte]) | with_reducible refine zq8 ?_)
  refine AWp.loopK (ι := { k : Nat // k ≤ 707 ∧ (List.range k).all (leaveB l L L2) = true }) (n := 0) (fun k => [(0, .d (boxD l)), (1, .d (intL L)), (2, .d (intL L2)), (7, .d (iD k.1))]) (fun _ => []) (fun k => 707 - k.1) ⟨0, by omega, rfl⟩ [] ?_ ?_
  · refine ⟨by rfl, by simp [], by simp [or_imp, forall_and, ] <;> (try (intro _hne; simp [_hne])), by decide⟩
  rintro ⟨i, hi, hall⟩ kk
  have w1 : IntKind.i64.wrap ((i : Int) + 1) = (i : Int) + 1 := wrap64_in (by omega)
  by_cases hlt : i < 707
  · have hii : (i : Int) < 707 := by omega
    obtain ⟨d, hd⟩ : ∃ d, d = i / 7 := ⟨_, rfl⟩
    obtain ⟨b, hb⟩ : ∃ b, b = i % 7 := ⟨_, rfl⟩
    have q1 : (i : Int).tdiv 7 = (d : Int) := by rw [Int.tdiv_eq_ediv_of_nonneg (by omega)]; omega
    have q2 : (i : Int).tmod 7 = (b : Int) := by rw [Int.tmod_eq_emod_of_nonneg (by omega)]; omega
    have q3 : IntKind.i64.wrap (d : Int) = (d : Int) := wrap64_in (by omega)
    have hb7 : b < 7 := by omega
    have hb7i : (b : Int) < 7 := by omega
    have hmL : b < L.length := by omega
    obtain ⟨x, hx⟩ : ∃ x, L[b]? = some x := ⟨_, List.getElem?_eq_getElem hmL⟩
    have hax := atL_of hx
    have hge : GoodE (⟨d, b⟩ : HE) := by
      have h := ixE_good hlt
      rw [ixE, ← hd, ← hb] at h
      exact h
    have hs := all_succ (leaveB l L L2) i
    rw [hall, Bool.true_and, leaveB, ← hd, ← hb, hax, ixE, ← hd, ← hb] at hs
    have hi1 : i + 1 ≤ 707 := hlt
    by_cases gx : (d : Int) ≤ x
    · have hs' : (List.range (i + 1)).all (leaveB l L L2) = true := by rw [hs]; simp [gx]
      repeat (first | (with_reducible first | refine zq1 fun _ => ?_ | refine zq2 fun _ => ?_ | refine zq3 ?_) | ((first | refine zq4 ?_ | refine zq5 fun _ _ => ?_ | refine zq6 ?_); simp [-getElem?_pos, z0, z1, z2, hii, q1, q2, q3, hb7, hb7i, hmL, hx, h7, gx, w1]) | ((first | refine AWp.ret ?_ | refine AWp.skip ?_ | refine AWp.exit ?_); try simp only [thenP]) | (with_reducible refine zq7 ?_; simp only [blockP, thenP, reduceIte]) | with_reducible refine zq8 ?_)
      refine LL.go ⟨i + 1, hi1, hs'⟩ [] ⟨by rfl, by simp [], by simp [or_imp, forall_and, ] <;> (try (intro _hne; simp [_hne])), by decide⟩ ?_
      simp; omega
    · have hs2 : (List.range (i + 1)).all (leaveB l L L2) = l.all fun s => !intoB L2 ⟨d, b⟩ s := by rw [hs]; simp [gx]
      repeat (first | (with_reducible first | refine zq1 fun _ => ?_ | refine zq2 fun _ => ?_ | refine zq3 ?_) | ((first | refine zq4 ?_ | refine zq5 fun _ _ => ?_ | refine zq6 ?_); simp [-getElem?_pos, z0, z1, z2, hii, q1, q2, q3, hb7, hb7i, hmL, hx, h7, gx]) | ((first | refine AWp.ret ?_ | refine AWp.skip ?_ | refine AWp.exit ?_); try simp only [thenP]) | (with_reducible refine zq7 ?_; simp only [blockP, thenP, reduceIte]) | with_reducible refine zq8 ?_)
      refine AWp.loopK (ι := { j : Nat // j ≤ l.length ∧ ((l.take j).all fun s => !intoB L2 ⟨d, b⟩ s) = true }) (n := 0) (fun j => [(0, .d (boxD l)), (1, .d (intL L)), (2, .d (intL L2)), (7, .d (iD i)), (8, .d (iD j.1))]) (fun _ => []) (fun j => l.length - j.1) ⟨0, by omega, rfl⟩ [] ?_ ?_
      · refine ⟨by rfl, by simp [], by simp [or_imp, forall_and, ] <;> (try (intro _hne; simp [_hne])), by decide⟩
      rintro ⟨j, hj, hallj⟩ kk2
      have w2 : IntKind.i64.wrap ((j : Int) + 1) = (j : Int) + 1 := wrap64_in (by omega)
      by_cases hltj : j < l.length
      · have hji : (j : Int) < (l.length : Int) := by omega
        obtain ⟨st, hst⟩ : ∃ st, l[j]? = some st := ⟨_, List.getElem?_eq_getElem hltj⟩
        have gst := goodS hl hst
        have cs := refStroke_c st ⟨d, b⟩ gst hge
        have hsj := allK_take hst (fun s => !intoB L2 ⟨d, b⟩ s)
        rw [hallj, Bool.true_and] at hsj
        have hj1 : j + 1 ≤ l.length := hltj
        rcases hc : canS st ⟨d, b⟩
        · have hin : intoB L2 ⟨d, b⟩ st = false := by rw [intoB, hc]; rfl
          rw [hc] at cs
          repeat (first | (with_reducible first | refine zq1 fun _ => ?_ | refine zq2 fun _ => ?_ | refine zq3 ?_) | ((first | refine zq4 ?_ | refine zq5 fun _ _ => ?_ | refine zq6 ?_); simp [-getElem?_pos, z0, z1, z2, hji, hltj, hst, q1, q2, q3]) | ((first | refine AWp.ret ?_ | refine AWp.skip ?_ | refine AWp.exit ?_); try simp only [thenP]) | (with_reducible refine zq7 ?_; simp only [blockP, thenP, reduceIte]) | with_reducible refine zq8 ?_)
          (first | refine Exec0.call [] cs ?_ rfl ?_ ?_ | refine Exec.call [] cs ?_ rfl ?_ ?_); (focus simp [-getElem?_pos, q1, q2, q3]); (focus simp [-getElem?_pos, z0, z1, z2, q1, q2, q3]); simp [-getElem?_pos, z0, z1, z2, q1, q2, q3]
          repeat (first | (with_reducible first | refine zq1 fun _ => ?_ | refine zq2 fun _ => ?_ | refine zq3 ?_) | ((first | refine zq4 ?_ | refine zq5 fun _ _ => ?_ | refine zq6 ?_); simp [-getElem?_pos, z0, z1, z2, w2]) | ((first | refine AWp.ret ?_ | refine AWp.skip ?_ | refine AWp.exit ?_); try simp only [thenP]) | (with_reducible refine zq7 ?_; simp only [blockP, thenP, reduceIte]) | with_reducible refine zq8 ?_)
          refine LL.go ⟨j + 1, hj1, by rw [hsj, hin]; rfl⟩ [] ⟨by rfl, by simp [], by simp [or_imp, forall_and, ] <;> (try (intro _hne; simp [_hne])), by decide⟩ ?_
          simp; omega
        · have hgs := GoodE.str gst hge hc
          have hR : strR st ⟨d, b⟩ = strE st ⟨d, b⟩ := by rw [strR, hc]; rfl
          rw [hc, hR] at cs
          have hin : intoB L2 ⟨d, b⟩ st = decide ((strE st ⟨d, b⟩).depth ≤ atL L2 (strE st ⟨d, b⟩).burr.toNat) := by rw [intoB, hc, Bool.true_and]
          generalize strE st ⟨d, b⟩ = e2 at *
          obtain ⟨e3, e4⟩ := e2
          obtain ⟨u1, u2, u3, u4⟩ := hgs
          simp only at u1 u2 u3 u4 hin
          obtain ⟨B2, rfl⟩ := Int.eq_ofNat_of_zero_le u3
          rw [show ((B2 : Int)).toNat = B2 by omega] at hin
          have hB7 : B2 < 7 := by omega
          have hB7i : (B2 : Int) < 7 := by omega
          have hBL : B2 < L2.length := by omega
          obtain ⟨y, hy⟩ : ∃ y, L2[B2]? = some y := ⟨_, List.getElem?_eq_getElem hBL⟩
          rw [atL_of hy] at hin
          by_cases gy : e3 ≤ y
          · have hr' : r = false := by
              rw [hr]
              refine all_no hlt ?_
              rw [leaveB, ← hd, ← hb, hax, ixE, ← hd, ← hb, decide_eq_false gx, Bool.false_or]
              exact allK_not hst (by rw [hin]; simp [gy])
            repeat (first | (with_reducible first | refine zq1 fun _ => ?_ | refine zq2 fun _ => ?_ | refine zq3 ?_) | ((first | refine zq4 ?_ | refine zq5 fun _ _ => ?_ | refine zq6 ?_); simp [-getElem?_pos, z0, z1, z2, hji, hltj, hst, q1, q2, q3]) | ((first | refine AWp.ret ?_ | refine AWp.skip ?_ | refine AWp.exit ?_); try simp only [thenP]) | (with_reducible refine zq7 ?_; simp only [blockP, thenP, reduceIte]) | with_reducible refine zq8 ?_)
            (first | refine Exec0.call [] cs ?_ rfl ?_ ?_ | refine Exec.call [] cs ?_ rfl ?_ ?_); (focus simp [-getElem?_pos, q1, q2, q3]); (focus simp [-getElem?_pos, z0, z1, z2, q1, q2, q3]); simp [-getElem?_pos, z0, z1, z2, q1, q2, q3]
            repeat (first | (with_reducible first | refine zq1 fun _ => ?_ | refine zq2 fun _ => ?_ | refine zq3 ?_) | ((first | refine zq4 ?_ | refine zq5 fun _ _ => ?_ | refine zq6 ?_); simp [-getElem?_pos, z0, z1, z2, w2, hB7, hB7i, hBL, hy, gy, h72]) | ((first | refine AWp.ret ?_ | refine AWp.skip ?_ | refine AWp.exit ?_); try simp only [thenP]) | (with_reducible refine zq7 ?_; simp only [blockP, thenP, reduceIte]) | with_reducible refine zq8 ?_)
            (first | refine RR.ret ?_ | refine RR.normal ?_); simp [hr']
          · repeat (first | (with_reducible first | refine zq1 fun _ => ?_ | refine zq2 fun _ => ?_ | refine zq3 ?_) | ((first | refine zq4 ?_ | refine zq5 fun _ _ => ?_ | refine zq6 ?_); simp [-getElem?_pos, z0, z1, z2, hji, hltj, hst, q1, q2, q3]) | ((first | refine AWp.ret ?_ | refine AWp.skip ?_ | refine AWp.exit ?_); try simp only [thenP]) | (with_reducible refine zq7 ?_; simp only [blockP, thenP, reduceIte]) | with_reducible refine zq8 ?_)
            (first | refine Exec0.call [] cs ?_ rfl ?_ ?_ | refine Exec.call [] cs ?_ rfl ?_ ?_); (focus simp [-getElem?_pos, q1, q2, q3]); (focus simp [-getElem?_pos, z0, z1, z2, q1, q2, q3]); simp [-getElem?_pos, z0, z1, z2, q1, q2, q3]
            repeat (first | (with_reducible first | refine zq1 fun _ => ?_ | refine zq2 fun _ => ?_ | refine zq3 ?_) | ((first | refine zq4 ?_ | refine zq5 fun _ _ => ?_ | refine zq6 ?_); simp [-getElem?_pos, z0, z1, z2, w2, hB7, hB7i, hBL, hy, gy, h72]) | ((first | refine AWp.ret ?_ | refine AWp.skip ?_ | refine AWp.exit ?_); try simp only [thenP]) | (with_reducible refine zq7 ?_; simp only [blockP, thenP, reduceIte]) | with_reducible refine zq8 ?_)
            refine LL.go ⟨j + 1, hj1, by rw [hsj, hin]; simp [gy]⟩ [] ⟨by rfl, by simp [], by simp [or_imp, forall_and, ] <;> (try (intro _hne; simp [_hne])), by decide⟩ ?_
            simp; omega
      · obtain rfl : j = l.length := by omega
        rw [List.take_length] at hallj
        repeat (first | (with_reducible first | refine zq1 fun _ => ?_ | refine zq2 fun _ => ?_ | refine zq3 ?_) | ((first | refine zq4 ?_ | refine zq5 fun _ _ => ?_ | refine zq6 ?_); simp [-getElem?_pos, z0, z1, z2, w1]) | ((first | refine AWp.ret ?_ | refine AWp.skip ?_ | refine AWp.exit ?_); try simp only [thenP]) | (with_reducible refine zq7 ?_; simp only [blockP, thenP, reduceIte]) | with_reducible refine zq8 ?_)
        refine LL.go ⟨i + 1, hi1, hs2.trans hallj⟩ [] ⟨by rfl, by simp [], by simp [or_imp, forall_and, ] <;> (try (intro _hne; simp [_hne])), by decide⟩ ?_
        simp; omega
  · obtain rfl : i = 707 := by omega
    have hr' : r = true := by rw [hr]; exact hall
    repeat (first | (with_reducible first | refine zq1 fun _ => ?_ | refine zq2 fun _ => ?_ | refine zq3 ?_) | ((first | refine zq4 ?_ | refine zq5 fun _ _ => ?_ | refine zq6 ?_); simp [-getElem?_pos, z0, z1, z2, ]) | ((first | refine AWp.ret ?_ | refine AWp.skip ?_ | refine AWp.exit ?_); try simp only [thenP]) | (with_reducible refine zq7 ?_; simp only [blockP, thenP, reduceIte]) | with_reducible refine zq8 ?_)
    (first | refine RR.ret ?_ | refine RR.normal ?_); simp [hr']
end Go.Proofs.Ytcmkkgdjhjpldaa.Eng

namespace Go.Proofs.Ytcmkkgdjhjpldaa.Eng
open Go.RowKit
def provAt (l : List HS) (e g : HE) (Ls : List (List Int)) (k : Nat) : Bool := (if k = 0 then holdsB g (Ls.getD 0 []) else leavesB l (Ls.getD k []) (Ls.getD (k - 1) [])) && decide (atL (Ls.getD k []) e.burr.toNat < e.depth)
def refChk (l : List HS) (e g : HE) (Ls : List (List Int)) : Int := if chkErr l [e, g] = 0 then (if 800 < Ls.length then 6 else if Ls.all rowOfB then (if (List.range Ls.length).all (provAt l e g Ls) then 0 else 14) else 3) else chkErr l [e, g]
theorem rowOfB_len {L : List Int} (h : rowOfB L = true) : L.length = 7 := by
  simp only [rowOfB, Bool.and_eq_true, decide_eq_true_eq] at h
  exact h.1.1
theorem getD_of {Ls : List (List Int)} {k : Nat} {L : List Int} (h : Ls[k]? = some L) : Ls.getD k [] = L := by rw [List.getD_eq_getElem?_getD, h]; rfl
set_option maxRecDepth 100000 in
set_option maxHeartbeats 8000000 in
theorem refCheckRows_c (l : List HS) (e g : HE) (Ls : List (List Int)) (hL : ∀ L ∈ Ls, L.length ≤ 1000000) : ACall Try.prog 29 [boxD l, edgD e, edgD g, .list (listsD Ls)] (iD (refChk l e g Ls)) := by
  obtain ⟨r, hr⟩ : ∃ r, r = refChk l e g Ls := ⟨_, rfl⟩
  rw [← hr]
  obtain ⟨ed, eb⟩ := e
  have ca := refAsked_c l ⟨ed, eb⟩ g
  have hll : (listsD Ls).length = Ls.length := by simp [listsD]
  by_cases h0 : chkErr l [⟨ed, eb⟩, g] = 0
  · obtain ⟨hb, hes⟩ := chkOk h0
    have ge := goodE (e := (⟨ed, eb⟩ : HE)) (by simp at hes; exact hes.1)
    have gg := goodE (e := g) (by simp at hes; exact hes.2)
    rw [h0] at ca
    rw [refChk, if_pos h0] at hr
    by_cases h8 : 800 < Ls.length
    · have h8i : (800 : Int) < (Ls.length : Int) := by omega
      rw [if_pos h8] at hr
      refine acallK tabOk Try.func29 rfl rfl (show 4 ≤ _ by decide) rfl fun _ => ?_; simp only [Try.ntmps29]
      repeat (first | (with_reducible first | refine zq1 fun _ => ?_ | refine zq2 fun _ => ?_ | refine zq3 ?_) | ((first | refine zq4 ?_ | refine zq5 fun _ _ => ?_ | refine zq6 ?_); simp [-getElem?_pos, z0, z1, z2, ]) | ((first | refine AWp.ret ?_ | refine AWp.skip ?_ | refine AWp.exit ?_); try simp only [thenP]) | (with_reducible refine zq7 ?_; simp only [blockP, thenP, reduceIte]) | with_reducible refine zq8 ?_)
      (first | refine Exec0.call [] ca ?_ rfl ?_ ?_ | refine Exec.call [] ca ?_ rfl ?_ ?_); (focus simp [-getElem?_pos, ]); (focus simp [-getElem?_pos, z0, z1, z2, ]); simp [-getElem?_pos, z0, z1, z2, ]
      repeat (first | (with_reducible first | refine zq1 fun _ => ?_ | refine zq2 fun _ => ?_ | refine zq3 ?_) | ((first | refine zq4 ?_ | refine zq5 fun _ _ => ?_ | refine zq6 ?_); simp [-getElem?_pos, z0, z1, z2, hll, h8, h8i]) | ((first | refine AWp.ret ?_ | refine AWp.skip ?_ | refine AWp.exit ?_); try simp only [thenP]) | (with_reducible refine zq7 ?_; simp only [blockP, thenP, reduceIte]) | with_reducible refine zq8 ?_)
      (first | refine RR.ret ?_ | refine RR.normal ?_); simp [hr]
    rw [if_neg h8] at hr
    obtain ⟨B, rfl⟩ := Int.eq_ofNat_of_zero_le (show 0 ≤ eb from ge.b0)
    have hBn : ((B : Int)).toNat = B := by omega
    have hB7 : B < 7 := by have h9 : (B : Int) ≤ 6 := ge.b1; omega
    have h8i : ¬ (800 : Int) < (Ls.length : Int) := by omega
    refine acallK tabOk Try.func29 rfl rfl (show 4 ≤ _ by decide) rfl fun _ => ?_; simp only [Try.ntmps29]
    repeat (first | (with_reducible first | refine zq1 fun _ => ?_ | refine zq2 fun _ => ?_ | refine zq3 ?_) | ((first | refine zq4 ?_ | refine zq5 fun _ _ => ?_ | refine zq6 ?_); simp [-getElem?_pos, z0, z1, z2, ]) | ((first | refine AWp.ret ?_ | refine AWp.skip ?_ | refine AWp.exit ?_); try simp only [thenP]) | (with_reducible refine zq7 ?_; simp only [blockP, thenP, reduceIte]) | with_reducible refine zq8 ?_)
    (first | refine Exec0.call [] ca ?_ rfl ?_ ?_ | refine Exec.call [] ca ?_ rfl ?_ ?_); (focus simp [-getElem?_pos, ]); (focus simp [-getElem?_pos, z0, z1, z2, ]); simp [-getElem?_pos, z0, z1, z2, ]
    repeat (first | (with_reducible first | refine zq1 fun _ => ?_ | refine zq2 fun _ => ?_ | refine zq3 ?_) | ((first | refine zq4 ?_ | refine zq5 fun _ _ => ?_ | refine zq6 ?_); simp [-getElem?_pos, z0, z1, z2, hll, h8, h8i]) | ((first | refine AWp.ret ?_ | refine AWp.skip ?_ | refine AWp.exit ?_); try simp only [thenP]) | (with_reducible refine zq7 ?_; simp only [blockP, thenP, reduceIte]) | with_reducible refine zq8 ?_)
    refine AWp.loopK (ι := { k : Nat // k ≤ Ls.length ∧ (Ls.take k).all rowOfB = true }) (n := 2) (fun k => [(0, .d (boxD l)), (3, .d (.list (listsD Ls))), (5, .ptr 0 0 0), (6, .ptr 1 0 0), (9, .d (iD k.1))]) (fun _ => [(0, .box 24 [.d (iD ed), .d (iD (B : Int))] false), (1, .box 24 [.d (iD g.depth), .d (iD g.burr)] false)]) (fun k => Ls.length - k.1) ⟨0, by omega, rfl⟩ [0, 1] ?_ ?_
    · refine ⟨by rfl, by simp [], by simp [or_imp, forall_and, ] <;> (try (intro _hne; simp [_hne])), by decide⟩
    rintro ⟨k, hk, hall⟩ kk
    have w1 : IntKind.i64.wrap ((k : Int) + 1) = (k : Int) + 1 := wrap64_in (by omega)
    by_cases hlt : k < Ls.length
    · have hki : (k : Int) < (Ls.length : Int) := by omega
      have hk1 : k + 1 ≤ Ls.length := hlt
      obtain ⟨L, hq⟩ : ∃ L, Ls[k]? = some L := ⟨_, List.getElem?_eq_getElem hlt⟩
      have hrow : (listsD Ls)[k]? = some [intL L] := by rw [listsD, List.getElem?_map, hq]; rfl
      have cr := refIsRow_c L (hL L (List.mem_of_getElem? hq))
      have hs := allK_take hq rowOfB
      rw [hall, Bool.true_and] at hs
      rcases hB : rowOfB L <;> rw [hB] at cr hs
      · have hr' : r = 3 := by rw [hr, allK_not hq hB]; rfl
        repeat (first | (with_reducible first | refine zq1 fun _ => ?_ | refine zq2 fun _ => ?_ | refine zq3 ?_) | ((first | refine zq4 ?_ | refine zq5 fun _ _ => ?_ | refine zq6 ?_); simp [-getElem?_pos, z0, z1, z2, hki, hlt, hrow, hll]) | ((first | refine AWp.ret ?_ | refine AWp.skip ?_ | refine AWp.exit ?_); try simp only [thenP]) | (with_reducible refine zq7 ?_; simp only [blockP, thenP, reduceIte]) | with_reducible refine zq8 ?_)
        (first | refine Exec0.call [] cr ?_ rfl ?_ ?_ | refine Exec.call [] cr ?_ rfl ?_ ?_); (focus simp [-getElem?_pos, ]); (focus simp [-getElem?_pos, z0, z1, z2, ]); simp [-getElem?_pos, z0, z1, z2, ]
        repeat (first | (with_reducible first | refine zq1 fun _ => ?_ | refine zq2 fun _ => ?_ | refine zq3 ?_) | ((first | refine zq4 ?_ | refine zq5 fun _ _ => ?_ | refine zq6 ?_); simp [-getElem?_pos, z0, z1, z2, ]) | ((first | refine AWp.ret ?_ | refine AWp.skip ?_ | refine AWp.exit ?_); try simp only [thenP]) | (with_reducible refine zq7 ?_; simp only [blockP, thenP, reduceIte]) | with_reducible refine zq8 ?_)
        (first | refine RR.ret ?_ | refine RR.normal ?_); simp [hr']
      · repeat (first | (with_reducible first | refine zq1 fun _ => ?_ | refine zq2 fun _ => ?_ | refine zq3 ?_) | ((first | refine zq4 ?_ | refine zq5 fun _ _ => ?_ | refine zq6 ?_); simp [-getElem?_pos, z0, z1, z2, hki, hlt, hrow, hll]) | ((first | refine AWp.ret ?_ | refine AWp.skip ?_ | refine AWp.exit ?_); try simp only [thenP]) | (with_reducible refine zq7 ?_; simp only [blockP, thenP, reduceIte]) | with_reducible refine zq8 ?_)
        (first | refine Exec0.call [] cr ?_ rfl ?_ ?_ | refine Exec.call [] cr ?_ rfl ?_ ?_); (focus simp [-getElem?_pos, ]); (focus simp [-getElem?_pos, z0, z1, z2, ]); simp [-getElem?_pos, z0, z1, z2, ]
        repeat (first | (with_reducible first | refine zq1 fun _ => ?_ | refine zq2 fun _ => ?_ | refine zq3 ?_) | ((first | refine zq4 ?_ | refine zq5 fun _ _ => ?_ | refine zq6 ?_); simp [-getElem?_pos, z0, z1, z2, w1]) | ((first | refine AWp.ret ?_ | refine AWp.skip ?_ | refine AWp.exit ?_); try simp only [thenP]) | (with_reducible refine zq7 ?_; simp only [blockP, thenP, reduceIte]) | with_reducible refine zq8 ?_)
        refine LL.go ⟨k + 1, hk1, hs⟩ [0, 1] ⟨by rfl, by simp [], by simp [or_imp, forall_and, ] <;> (try (intro _hne; simp [_hne])), by decide⟩ ?_
        simp; omega
    · obtain rfl : k = Ls.length := by omega
      rw [List.take_length] at hall
      rw [if_pos hall] at hr
      have h7 : ∀ (j : Nat) L, Ls[j]? = some L → L.length = 7 := fun j L h => rowOfB_len (List.all_eq_true.1 hall L (List.mem_of_getElem? h))
      repeat (first | (with_reducible first | refine zq1 fun _ => ?_ | refine zq2 fun _ => ?_ | refine zq3 ?_) | ((first | refine zq4 ?_ | refine zq5 fun _ _ => ?_ | refine zq6 ?_); simp [-getElem?_pos, z0, z1, z2, hll]) | ((first | refine AWp.ret ?_ | refine AWp.skip ?_ | refine AWp.exit ?_); try simp only [thenP]) | (with_reducible refine zq7 ?_; simp only [blockP, thenP, reduceIte]) | with_reducible refine zq8 ?_)
      refine AWp.loopK (ι := { k : Nat // k ≤ Ls.length ∧ (List.range k).all (provAt l ⟨ed, (B : Int)⟩ g Ls) = true }) (n := 2) (fun k => [(0, .d (boxD l)), (3, .d (.list (listsD Ls))), (5, .ptr 0 0 0), (6, .ptr 1 0 0), (10, .d (iD k.1))]) (fun _ => [(0, .box 24 [.d (iD ed), .d (iD (B : Int))] false), (1, .box 24 [.d (iD g.depth), .d (iD g.burr)] false)]) (fun k => Ls.length - k.1) ⟨0, by omega, rfl⟩ [0, 1] ?_ ?_
      · refine ⟨by rfl, by simp [], by simp [or_imp, forall_and, ] <;> (try (intro _hne; simp [_hne])), by decide⟩
      rintro ⟨k, hk, hall2⟩ kk2
      have w1 : IntKind.i64.wrap ((k : Int) + 1) = (k : Int) + 1 := wrap64_in (by omega)
      by_cases hlt : k < Ls.length
      · have hki : (k : Int) < (Ls.length : Int) := by omega
        have hk1 : k + 1 ≤ Ls.length := hlt
        obtain ⟨L, hq⟩ : ∃ L, Ls[k]? = some L := ⟨_, List.getElem?_eq_getElem hlt⟩
        have hrow : (listsD Ls)[k]? = some [intL L] := by rw [listsD, List.getElem?_map, hq]; rfl
        have hL7 := h7 k L hq
        have hs := all_succ (provAt l ⟨ed, (B : Int)⟩ g Ls) k
        rw [hall2, Bool.true_and] at hs
        have hgD := getD_of hq
        have hB7i : (B : Int) < 7 := by omega
        have hBL : B < L.length := by omega
        obtain ⟨y, hy⟩ : ∃ y, L[B]? = some y := ⟨_, List.getElem?_eq_getElem hBL⟩
        have hay := atL_of hy
        have hprov : provAt l ⟨ed, (B : Int)⟩ g Ls k = ((if k = 0 then holdsB g (Ls.getD 0 []) else leavesB l L (Ls.getD (k - 1) [])) && decide (y < ed)) := by rw [provAt, hgD]; show (_ && decide (atL L (B : Int).toNat < ed)) = _; rw [hBn, hay]
        have hno : ∀ b, provAt l ⟨ed, (B : Int)⟩ g Ls k = b → b = false → r = 14 := fun b h1 h2 => by rw [hr, all_no hlt (h1.trans h2)]; rfl
        rcases k with _ | k
        · rw [if_pos rfl, hgD] at hprov
          have ch := refHolds_c g gg L hL7
          have hrow0 : (listsD Ls)[0]? = some [intL L] := hrow
          rcases hH : holdsB g L <;> rw [hH] at ch hprov
          · have hr' := hno _ hprov rfl
            repeat (first | (with_reducible first | refine zq1 fun _ => ?_ | refine zq2 fun _ => ?_ | refine zq3 ?_) | ((first | refine zq4 ?_ | refine zq5 fun _ _ => ?_ | refine zq6 ?_); simp [-getElem?_pos, z0, z1, z2, hki, hlt, hrow, hrow0, hll]) | ((first | refine AWp.ret ?_ | refine AWp.skip ?_ | refine AWp.exit ?_); try simp only [thenP]) | (with_reducible refine zq7 ?_; simp only [blockP, thenP, reduceIte]) | with_reducible refine zq8 ?_)
            (first | refine Exec0.call [] ch ?_ rfl ?_ ?_ | refine Exec.call [] ch ?_ rfl ?_ ?_); (focus simp [-getElem?_pos, hrow, hrow0, hki, hlt, hll, hB7, hB7i, hBL, hL7, hy]); (focus simp [-getElem?_pos, z0, z1, z2, hrow, hrow0, hki, hlt, hll, hB7, hB7i, hBL, hL7, hy]); simp [-getElem?_pos, z0, z1, z2, hrow, hrow0, hki, hlt, hll, hB7, hB7i, hBL, hL7, hy]
            repeat (first | (with_reducible first | refine zq1 fun _ => ?_ | refine zq2 fun _ => ?_ | refine zq3 ?_) | ((first | refine zq4 ?_ | refine zq5 fun _ _ => ?_ | refine zq6 ?_); simp [-getElem?_pos, z0, z1, z2, hki, hlt, hrow, hrow0, hll]) | ((first | refine AWp.ret ?_ | refine AWp.skip ?_ | refine AWp.exit ?_); try simp only [thenP]) | (with_reducible refine zq7 ?_; simp only [blockP, thenP, reduceIte]) | with_reducible refine zq8 ?_)
            (first | refine RR.ret ?_ | refine RR.normal ?_); simp [hr']
          · by_cases gy : ed ≤ y
            · have hr' := hno _ hprov (by simp; omega)
              repeat (first | (with_reducible first | refine zq1 fun _ => ?_ | refine zq2 fun _ => ?_ | refine zq3 ?_) | ((first | refine zq4 ?_ | refine zq5 fun _ _ => ?_ | refine zq6 ?_); simp [-getElem?_pos, z0, z1, z2, hki, hlt, hrow, hrow0, hll]) | ((first | refine AWp.ret ?_ | refine AWp.skip ?_ | refine AWp.exit ?_); try simp only [thenP]) | (with_reducible refine zq7 ?_; simp only [blockP, thenP, reduceIte]) | with_reducible refine zq8 ?_)
              (first | refine Exec0.call [] ch ?_ rfl ?_ ?_ | refine Exec.call [] ch ?_ rfl ?_ ?_); (focus simp [-getElem?_pos, hrow, hrow0, hki, hlt, hll, hB7, hB7i, hBL, hL7, hy]); (focus simp [-getElem?_pos, z0, z1, z2, hrow, hrow0, hki, hlt, hll, hB7, hB7i, hBL, hL7, hy]); simp [-getElem?_pos, z0, z1, z2, hrow, hrow0, hki, hlt, hll, hB7, hB7i, hBL, hL7, hy]
              repeat (first | (with_reducible first | refine zq1 fun _ => ?_ | refine zq2 fun _ => ?_ | refine zq3 ?_) | ((first | refine zq4 ?_ | refine zq5 fun _ _ => ?_ | refine zq6 ?_); simp [-getElem?_pos, z0, z1, z2, hki, hlt, hrow, hrow0, hll, hB7, hB7i, hBL, hL7, hy, gy]) | ((first | refine AWp.ret ?_ | refine AWp.skip ?_ | refine AWp.exit ?_); try simp only [thenP]) | (with_reducible refine zq7 ?_; simp only [blockP, thenP, reduceIte]) | with_reducible refine zq8 ?_)
              (first | refine RR.ret ?_ | refine RR.normal ?_); simp [hr']
            · have wk1 : IntKind.i64.wrap 1 = 1 := by decide
              repeat (first | (with_reducible first | refine zq1 fun _ => ?_ | refine zq2 fun _ => ?_ | refine zq3 ?_) | ((first | refine zq4 ?_ | refine zq5 fun _ _ => ?_ | refine zq6 ?_); simp [-getElem?_pos, z0, z1, z2, hki, hlt, hrow, hrow0, hll]) | ((first | refine AWp.ret ?_ | refine AWp.skip ?_ | refine AWp.exit ?_); try simp only [thenP]) | (with_reducible refine zq7 ?_; simp only [blockP, thenP, reduceIte]) | with_reducible refine zq8 ?_)
              (first | refine Exec0.call [] ch ?_ rfl ?_ ?_ | refine Exec.call [] ch ?_ rfl ?_ ?_); (focus simp [-getElem?_pos, hrow, hrow0, hki, hlt, hll, hB7, hB7i, hBL, hL7, hy]); (focus simp [-getElem?_pos, z0, z1, z2, hrow, hrow0, hki, hlt, hll, hB7, hB7i, hBL, hL7, hy]); simp [-getElem?_pos, z0, z1, z2, hrow, hrow0, hki, hlt, hll, hB7, hB7i, hBL, hL7, hy]
              repeat (first | (with_reducible first | refine zq1 fun _ => ?_ | refine zq2 fun _ => ?_ | refine zq3 ?_) | ((first | refine zq4 ?_ | refine zq5 fun _ _ => ?_ | refine zq6 ?_); simp [-getElem?_pos, z0, z1, z2, hki, hlt, hrow, hrow0, hll, hB7, hB7i, hBL, hL7, hy, gy, wk1]) | ((first | refine AWp.ret ?_ | refine AWp.skip ?_ | refine AWp.exit ?_); try simp only [thenP]) | (with_reducible refine zq7 ?_; simp only [blockP, thenP, reduceIte]) | with_reducible refine zq8 ?_)
              refine LL.go ⟨1, hk1, by rw [hs, hprov]; simp; omega⟩ [0, 1] ⟨by rfl, by simp [], by simp [or_imp, forall_and, ] <;> (try (intro _hne; simp [_hne])), by decide⟩ ?_
              simp; omega
        · obtain ⟨L2, hq2⟩ : ∃ L2, Ls[k]? = some L2 := ⟨_, List.getElem?_eq_getElem (by omega)⟩
          have hrow2 : (listsD Ls)[k]? = some [intL L2] := by rw [listsD, List.getElem?_map, hq2]; rfl
          have hL72 := h7 k L2 hq2
          rw [if_neg (by omega), Nat.add_sub_cancel, getD_of hq2] at hprov
          have ch := refLeaves_c l hb.all hb.n2 L L2 hL7 hL72
          have hk0 : ¬ (k : Int) + 1 = 0 := by omega
          have w4 : IntKind.i64.wrap ((k : Int) + 1 + 1) = (k : Int) + 1 + 1 := wrap64_in (by omega)
          have hk2 : (0 : Int) < (k : Int) + 1 := by omega
          have hk3 : (0 : Int) ≤ (k : Int) + 1 := by omega
          have hk4 : (k : Int) + 1 < (Ls.length : Int) := hki
          have hk5 : k < Ls.length := by omega
          have hk6 : (k : Int) < (Ls.length : Int) := by omega
          have w3 : IntKind.i64.wrap (k : Int) = (k : Int) := wrap64_in (by omega)
          rcases hH : leavesB l L L2 <;> rw [hH] at ch hprov
          · have hr' := hno _ hprov rfl
            repeat (first | (with_reducible first | refine zq1 fun _ => ?_ | refine zq2 fun _ => ?_ | refine zq3 ?_) | ((first | refine zq4 ?_ | refine zq5 fun _ _ => ?_ | refine zq6 ?_); simp [-getElem?_pos, z0, z1, z2, hki, hlt, hrow, hrow2, hll, hk0, hk2, hk3, hk4, hk5, hk6, w3]) | ((first | refine AWp.ret ?_ | refine AWp.skip ?_ | refine AWp.exit ?_); try simp only [thenP]) | (with_reducible refine zq7 ?_; simp only [blockP, thenP, reduceIte]) | with_reducible refine zq8 ?_)
            (first | refine Exec0.call [] ch ?_ rfl ?_ ?_ | refine Exec.call [] ch ?_ rfl ?_ ?_); (focus simp [-getElem?_pos, hrow, hrow2, hki, hlt, hll, hk0, hk2, hk3, hk4, hk5, hk6, w3, hB7, hB7i, hBL, hL7, hy]); (focus simp [-getElem?_pos, z0, z1, z2, hrow, hrow2, hki, hlt, hll, hk0, hk2, hk3, hk4, hk5, hk6, w3, hB7, hB7i, hBL, hL7, hy]); simp [-getElem?_pos, z0, z1, z2, hrow, hrow2, hki, hlt, hll, hk0, hk2, hk3, hk4, hk5, hk6, w3, hB7, hB7i, hBL, hL7, hy]
            repeat (first | (with_reducible first | refine zq1 fun _ => ?_ | refine zq2 fun _ => ?_ | refine zq3 ?_) | ((first | refine zq4 ?_ | refine zq5 fun _ _ => ?_ | refine zq6 ?_); simp [-getElem?_pos, z0, z1, z2, hki, hlt, hrow, hrow2, hll]) | ((first | refine AWp.ret ?_ | refine AWp.skip ?_ | refine AWp.exit ?_); try simp only [thenP]) | (with_reducible refine zq7 ?_; simp only [blockP, thenP, reduceIte]) | with_reducible refine zq8 ?_)
            (first | refine RR.ret ?_ | refine RR.normal ?_); simp [hr']
          · by_cases gy : ed ≤ y
            · have hr' := hno _ hprov (by simp; omega)
              repeat (first | (with_reducible first | refine zq1 fun _ => ?_ | refine zq2 fun _ => ?_ | refine zq3 ?_) | ((first | refine zq4 ?_ | refine zq5 fun _ _ => ?_ | refine zq6 ?_); simp [-getElem?_pos, z0, z1, z2, hki, hlt, hrow, hrow2, hll, hk0, hk2, hk3, hk4, hk5, hk6, w3]) | ((first | refine AWp.ret ?_ | refine AWp.skip ?_ | refine AWp.exit ?_); try simp only [thenP]) | (with_reducible refine zq7 ?_; simp only [blockP, thenP, reduceIte]) | with_reducible refine zq8 ?_)
              (first | refine Exec0.call [] ch ?_ rfl ?_ ?_ | refine Exec.call [] ch ?_ rfl ?_ ?_); (focus simp [-getElem?_pos, hrow, hrow2, hki, hlt, hll, hk0, hk2, hk3, hk4, hk5, hk6, w3, hB7, hB7i, hBL, hL7, hy]); (focus simp [-getElem?_pos, z0, z1, z2, hrow, hrow2, hki, hlt, hll, hk0, hk2, hk3, hk4, hk5, hk6, w3, hB7, hB7i, hBL, hL7, hy]); simp [-getElem?_pos, z0, z1, z2, hrow, hrow2, hki, hlt, hll, hk0, hk2, hk3, hk4, hk5, hk6, w3, hB7, hB7i, hBL, hL7, hy]
              repeat (first | (with_reducible first | refine zq1 fun _ => ?_ | refine zq2 fun _ => ?_ | refine zq3 ?_) | ((first | refine zq4 ?_ | refine zq5 fun _ _ => ?_ | refine zq6 ?_); simp [-getElem?_pos, z0, z1, z2, hki, hlt, hrow, hrow2, hll, hB7, hB7i, hBL, hL7, hy, gy, hk3, hk4]) | ((first | refine AWp.ret ?_ | refine AWp.skip ?_ | refine AWp.exit ?_); try simp only [thenP]) | (with_reducible refine zq7 ?_; simp only [blockP, thenP, reduceIte]) | with_reducible refine zq8 ?_)
              (first | refine RR.ret ?_ | refine RR.normal ?_); simp [hr']
            · repeat (first | (with_reducible first | refine zq1 fun _ => ?_ | refine zq2 fun _ => ?_ | refine zq3 ?_) | ((first | refine zq4 ?_ | refine zq5 fun _ _ => ?_ | refine zq6 ?_); simp [-getElem?_pos, z0, z1, z2, hki, hlt, hrow, hrow2, hll, hk0, hk2, hk3, hk4, hk5, hk6, w3]) | ((first | refine AWp.ret ?_ | refine AWp.skip ?_ | refine AWp.exit ?_); try simp only [thenP]) | (with_reducible refine zq7 ?_; simp only [blockP, thenP, reduceIte]) | with_reducible refine zq8 ?_)
              (first | refine Exec0.call [] ch ?_ rfl ?_ ?_ | refine Exec.call [] ch ?_ rfl ?_ ?_); (focus simp [-getElem?_pos, hrow, hrow2, hki, hlt, hll, hk0, hk2, hk3, hk4, hk5, hk6, w3, hB7, hB7i, hBL, hL7, hy]); (focus simp [-getElem?_pos, z0, z1, z2, hrow, hrow2, hki, hlt, hll, hk0, hk2, hk3, hk4, hk5, hk6, w3, hB7, hB7i, hBL, hL7, hy]); simp [-getElem?_pos, z0, z1, z2, hrow, hrow2, hki, hlt, hll, hk0, hk2, hk3, hk4, hk5, hk6, w3, hB7, hB7i, hBL, hL7, hy]
              repeat (first | (with_reducible first | refine zq1 fun _ => ?_ | refine zq2 fun _ => ?_ | refine zq3 ?_) | ((first | refine zq4 ?_ | refine zq5 fun _ _ => ?_ | refine zq6 ?_); simp [-getElem?_pos, z0, z1, z2, hki, hlt, hrow, hrow2, hll, hB7, hB7i, hBL, hL7, hy, gy, w4, hk3, hk4]) | ((first | refine AWp.ret ?_ | refine AWp.skip ?_ | refine AWp.exit ?_); try simp only [thenP]) | (with_reducible refine zq7 ?_; simp only [blockP, thenP, reduceIte]) | with_reducible refine zq8 ?_)
              refine LL.go ⟨k + 1 + 1, hk1, by rw [hs, hprov]; simp; omega⟩ [0, 1] ⟨by rfl, by simp [], by simp [or_imp, forall_and, ] <;> (try (intro _hne; simp [_hne])), by decide⟩ ?_
              simp; omega
      · obtain rfl : k = Ls.length := by omega
        rw [if_pos hall2] at hr
        repeat (first | (with_reducible first | refine zq1 fun _ => ?_ | refine zq2 fun _ => ?_ | refine zq3 ?_) | ((first | refine zq4 ?_ | refine zq5 fun _ _ => ?_ | refine zq6 ?_); simp [-getElem?_pos, z0, z1, z2, hll]) | ((first | refine AWp.ret ?_ | refine AWp.skip ?_ | refine AWp.exit ?_); try simp only [thenP]) | (with_reducible refine zq7 ?_; simp only [blockP, thenP, reduceIte]) | with_reducible refine zq8 ?_)
        (first | refine RR.ret ?_ | refine RR.normal ?_); simp [hr]
  · have hr' : r = chkErr l [⟨ed, eb⟩, g] := by rw [hr, refChk, if_neg h0]
    rw [hr']
    generalize chkErr l [⟨ed, eb⟩, g] = er at *
    refine acallK tabOk Try.func29 rfl rfl (show 4 ≤ _ by decide) rfl fun _ => ?_; simp only [Try.ntmps29]
    repeat (first | (with_reducible first | refine zq1 fun _ => ?_ | refine zq2 fun _ => ?_ | refine zq3 ?_) | ((first | refine zq4 ?_ | refine zq5 fun _ _ => ?_ | refine zq6 ?_); simp [-getElem?_pos, z0, z1, z2, ]) | ((first | refine AWp.ret ?_ | refine AWp.skip ?_ | refine AWp.exit ?_); try simp only [thenP]) | (with_reducible refine zq7 ?_; simp only [blockP, thenP, reduceIte]) | with_reducible refine zq8 ?_)
    (first | refine Exec0.call [] ca ?_ rfl ?_ ?_ | refine Exec.call [] ca ?_ rfl ?_ ?_); (focus simp [-getElem?_pos, h0]); (focus simp [-getElem?_pos, z0, z1, z2, h0]); simp [-getElem?_pos, z0, z1, z2, h0]
    repeat (first | (with_reducible first | refine zq1 fun _ => ?_ | refine zq2 fun _ => ?_ | refine zq3 ?_) | ((first | refine zq4 ?_ | refine zq5 fun _ _ => ?_ | refine zq6 ?_); simp [-getElem?_pos, z0, z1, z2, h0]) | ((first | refine AWp.ret ?_ | refine AWp.skip ?_ | refine AWp.exit ?_); try simp only [thenP]) | (with_reducible refine zq7 ?_; simp only [blockP, thenP, reduceIte]) | with_reducible refine zq8 ?_)
    (first | refine Exec0.call [] ca ?_ rfl ?_ ?_ | refine Exec.call [] ca ?_ rfl ?_ ?_); (focus simp [-getElem?_pos, ]); (focus simp [-getElem?_pos, z0, z1, z2, ]); simp [-getElem?_pos, z0, z1, z2, ]
    repeat (first | (with_reducible first | refine zq1 fun _ => ?_ | refine zq2 fun _ => ?_ | refine zq3 ?_) | ((first | refine zq4 ?_ | refine zq5 fun _ _ => ?_ | refine zq6 ?_); simp [-getElem?_pos, z0, z1, z2, ]) | ((first | refine AWp.ret ?_ | refine AWp.skip ?_ | refine AWp.exit ?_); try simp only [thenP]) | (with_reducible refine zq7 ?_; simp only [blockP, thenP, reduceIte]) | with_reducible refine zq8 ?_)
    (first | refine RR.ret ?_ | refine RR.normal ?_); simp []
end Go.Proofs.Ytcmkkgdjhjpldaa.Eng

noncomputable section
namespace Go.Proofs.Ytcmkkgdjhjpldaa.Eng
open Go.RowKit
variable {P : Program} {T : Tab} {r : Option Nat} {ns n : Nat} {s : St}
def AppQ (n : Nat) (s : St) (dst : Option Nat) (e : TypeId) (ie : TI) (id off k cp : Nat) (cells : List SV) (row : List Dat) (n' : Nat) (s' : St) : Prop :=
  n' = n + 1 ∧ ((k + 1 ≤ cp ∧ s' = ⟨setSlot s.slots dst (.sl id off (k + 1) (some cp)), setMem s.mem id (some (.box e (splice cells (off + k * ie.size) (row.map .d)) false))⟩) ∨
    (∃ cp', k + 1 ≤ cp' ∧ s' = ⟨setSlot s.slots dst (.sl n 0 (k + 1) (some cp')), setMem s.mem n (some (.box e ((cells.drop off).take (k * ie.size) ++ row.map .d ++ zerosC ie ((cp' - (k + 1)) * ie.size)) false))⟩))
theorem Reps.append {E : Env} {w : World} {as1 bs : List SV} {us vs : List Value} (h : Reps E w as1 us) (k : Reps E w bs vs) : Reps E w (as1 ++ bs) (us ++ vs) := by
  refine ⟨by simp [h.1, k.1], fun c hc => ?_, fun j c v hc hv => ?_⟩
  · rcases List.mem_append.1 hc with hc | hc
    · exact h.2.1 c hc
    · exact k.2.1 c hc
  · have hl := h.1
    by_cases hj : j < as1.length
    · rw [List.getElem?_append_left hj] at hc
      rw [List.getElem?_append_left (by omega)] at hv
      exact h.2.2 j c v hc hv
    · rw [List.getElem?_append_right (by omega)] at hc
      rw [List.getElem?_append_right (by omega)] at hv
      rw [hl] at hv
      exact k.2.2 _ c v hc hv
theorem stepI_appendQ (hT : TabOk P T) {o : Oper} {x y : Operand} {t e : TypeId} {i ie : TI} (ho : o.op = .call { callee := .builtin .append, args := #[x, y], argTypes := #[t, t] }) (hi : T t = some i) (hk : i.kind = .slice e) (hie : T e = some ie)
    {id off k cp : Nat} {cells : List SV} {yv : SV} {row : List Dat} (hx : opd ns s x = some (.sl id off k (some cp))) (hm : s.mem id = some (.box e cells false)) (hle : off + cp * ie.size ≤ cells.length) (hkc : k ≤ cp) (hy : opd ns s y = some yv) (hsrc : srcRows s.mem ie.size yv = some [row]) (hf : fitsB (k + 1) ie.bytes = true) :
    StepI P r ns n s o (AppQ n s o.dst e ie id off k cp cells row) := by
  intro W0 R0 B E a w hin h hd K Q hK
  refine oper_in (fun c e => by rw [ho] at e; cases e) ?_
  have hu := slice_und (hT t i hi) hk
  obtain ⟨inf, z0, i1, i4, i2, i3, hzs, hz⟩ := zeros_reps (E := E) (w := w) hT hie
  obtain ⟨c2, c3⟩ := fitsB_iff.1 hf
  obtain ⟨A, c, news, src⟩ := srcRows_rep h.mem hsrc (h.opd hy)
  have hsz := (hT e ie hie).pos
  have hrow := src.rowlen row List.mem_cons_self
  have hnl : news.length = ie.size := by rw [src.len]; simp
  obtain ⟨ad, rfl⟩ : ∃ ad, A = some ad := by
    cases A with
    | none => have := src.nil rfl; cases this
    | some ad => exact ⟨ad, rfl⟩
  have hnews : Reps E w (row.map .d) news := by
    refine ⟨by simp [hnl, hrow], fun c hc => ?_, fun j c v hc hv => ?_⟩
    · obtain ⟨d, hd, rfl⟩ := List.mem_map.1 hc
      exact src.ones row List.mem_cons_self d hd
    · rw [List.getElem?_map, Option.map_eq_some_iff] at hc
      obtain ⟨d, hd, rfl⟩ := hc
      exact .d _ _ (src.rep 0 j row d v rfl hd (by simpa using hv))
  obtain ⟨u, hu'⟩ : ∃ u, a.eval x = u := ⟨_, rfl⟩
  have hrx := h.opd hx
  rw [hu'] at hrx
  cases hrx with
  | sl _ _ _ _ o0 cd hdm hcd hq hnd =>
  obtain rfl := (hq (.inr (.inr (by simp)))).symm
  have hcp := hcd (.inr (by simp))
  simp only [Option.getD_some] at hcp
  subst hcp
  have hro : ¬ E.ro (E.home id).blk := fun k => by have := (h.frz id _ hm).2 k; cases this
  have hkz : k * ie.size ≤ cd * ie.size := Nat.mul_le_mul_right _ hkc
  cases h.mem id _ hm with
  | box _ _ _ cur h1 h2 h3 h4 =>
  have hC : Reps E w cells cur.toList := ⟨by simpa using h2, h3, fun i c v hc hv => h4 i c v hc (by simpa using hv)⟩
  have hex : ∀ {v' : Value} {w' : World}, (Builtin.append_ #[t, t] o.type #[.slice (some ⟨(E.home id).blk, off, none⟩) k cd, a.eval y]).run P w = .ok v' w' → (execOp a.eval o).run P w = .ok (.value v') w' := fun {v' w'} hr => by
    simp only [execOp, ho, resolve, invoke, builtin, Sem.run_bind, Sem.run_pure, Result.andThen_ok, List.map_toArray, List.map_cons, List.map_nil, hu', hr]
  rw [src.val] at hex
  simp only [List.length_cons, List.length_nil, Nat.zero_add] at hex
  by_cases hroom : k + 1 ≤ cd
  · have hkz1 : (k + 1) * ie.size ≤ cd * ie.size := Nat.mul_le_mul_right _ hroom
    rw [Nat.add_mul, Nat.one_mul] at hkz1
    have hst := run_storeCells_at P (E.home id).blk (off + k * ie.size) e news 0 cur w h1 (by rw [hnl]; omega) hnews.ones
    simp only [Nat.add_zero] at hst
    have hfc := run_firstCells_some (P := P) w ie.size 1 ad 1 c news (by simp [hnl]) (src.cells ad rfl)
    have hrun : (Builtin.append_ #[t, t] o.type #[.slice (some ⟨(E.home id).blk, off, none⟩) k cd, .slice (some ad) 1 c]).run P w = .ok (.slice (some ⟨(E.home id).blk, off, none⟩) (k + 1) cd) (w.setRow (E.home id).blk (cur.toList.take (off + k * ie.size) ++ news ++ cur.toList.drop (off + k * ie.size + news.length)).toArray) := by
      simp [Builtin.append_, run_underlying hu, sizeOf, typeInfo, i1, Builtin.lenOf, hroom, hfc, Addr.add_lit, i2, hst]
    have he := hex hrun
    have hw : ∀ b, E.ro b → (w.setRow (E.home id).blk (cur.toList.take (off + k * ie.size) ++ news ++ cur.toList.drop (off + k * ie.size + news.length)).toArray).heap[b]? = w.heap[b]? := fun b hb => setRow_other _ _ _ _ (fun e => hro (e ▸ hb))
    have hS := (hC.keep (Env.le.refl E) hw).splice (hnews.keep (Env.le.refl E) hw) (off + k * ie.size) (by simp [hrow]; omega) (cur.toList.take (off + k * ie.size) ++ news ++ cur.toList.drop (off + k * ie.size + news.length)).toArray (by simp [hnl]; omega) fun j => by
      rw [splice_at cur news (off + k * ie.size) (by rw [hnl]; omega)]
      by_cases q1 : off + k * ie.size ≤ j ∧ j < off + k * ie.size + news.length
      · rw [if_pos q1, if_pos ⟨q1.1, q1.2, by rw [hnl] at q1; simp; omega⟩]
      · rw [if_neg q1, if_neg (fun q' => q1 ⟨q'.1, q'.2.1⟩)]; simp
    have h6 : Sim W0 R0 ns (· < n) ⟨s.slots, setMem s.mem id (some (.box e (splice cells (off + k * ie.size) (row.map .d)) false))⟩ E a (w.setRow (E.home id).blk (cur.toList.take (off + k * ie.size) ++ news ++ cur.toList.drop (off + k * ie.size + news.length)).toArray) :=
      h.write hm rfl rfl (grown_setRow _ _ _) (.box e _ _ _ (setRow_heap _ _ _ _ _ _ h1) (by simpa using hS.1) hS.2.1 fun i c v hc hv => hS.2.2 i c v hc (by simpa using hv))
    unfold Oper.wp
    rw [he]
    refine hK (n + 1) _ E _ _ ⟨rfl, .inl ⟨hroom, rfl⟩⟩ ((h6.put hd ?_).weak fun i hi => by omega)
    exact .sl id off (k + 1) (some cd) off cd hdm (fun _ => rfl) (fun _ => rfl) hroom
  · let olds : List Value := (cur.toList.drop off).take (k * ie.size)
    have hol : olds.length = k * ie.size := by simp [olds]; omega
    have hO : Reps E w ((cells.drop off).take (k * ie.size)) olds := hC.sub off (k * ie.size)
    have hcell : ∀ (j : Nat) v, olds[j]? = some v → w.cell? ((⟨(E.home id).blk, off, none⟩ : Addr).add j) = some v := fun j v hv => by
      simp only [olds, List.getElem?_take] at hv
      split at hv
      · rw [Addr.add_lit, cell_of_row w _ _ cur e (0, 0) h1]
        rw [List.getElem?_drop] at hv
        simpa using hv
      · cases hv
    have hrun := run_append_grow (P := P) w t o.type e inf z0 hu i1 i4 ⟨(E.home id).blk, off, none⟩ k cd olds (by rw [i2]; exact hol) hcell ad 1 c news (by rw [i2]; simp [hnl]) (src.cells ad rfl) (by omega) (by have : k + 1 ≤ maxLen := c3; simp only [maxLen] at this; omega) (growslice_fits (by omega) (by rw [i3]; exact c2))
    have he := hex hrun
    have hge := grownCap_ge w (k + 1) cd e
    generalize grownCap w (k + 1) cd e = cp' at *
    have hw0 : Below w.heap.size w (w.drew.alloc (.cells (olds.toArray ++ news.toArray ++ Builtin.zeroCells z0.cells (cp' - (k + 1))) e)) := ⟨rfl, rfl, rfl, by simp, fun b hb => heap_alloc_old w.drew _ hb⟩
    have hro2 : ∀ b, E.ro b → (w.drew.alloc (.cells (olds.toArray ++ news.toArray ++ Builtin.zeroCells z0.cells (cp' - (k + 1))) e)).heap[b]? = w.heap[b]? := fun b hb => hw0.block b (h.rlt b hb)
    have hzc : Builtin.zeroCells z0.cells (cp' - (k + 1)) = madeCells z0.cells ((cp' - (k + 1)) * ie.size) := by unfold Builtin.zeroCells madeCells; rw [hzs]
    have hid : ¬ E.dom n := fun hk => Nat.lt_irrefl _ (h.dom n hk)
    have hE := E.le_add n ⟨w.heap.size, cp', ie.size⟩ hid
    have hall := ((hO.append hnews).append (hz ((cp' - (k + 1)) * ie.size))).keep hE hro2
    have h6 := h.new (w' := w.drew.alloc (.cells (olds.toArray ++ news.toArray ++ Builtin.zeroCells z0.cells (cp' - (k + 1))) e)) (i := n) (by omega) (.box e ((cells.drop off).take (k * ie.size) ++ row.map .d ++ zerosC ie ((cp' - (k + 1)) * ie.size)) false) ⟨w.heap.size, cp', ie.size⟩ (h.kept hw0) hro2 (fun k c hk => hw0.block _ (h.mem k c hk).lt)
      (.box e _ _ (olds.toArray ++ news.toArray ++ Builtin.zeroCells z0.cells (cp' - (k + 1))) (heap_alloc_new w.drew _) (by rw [hzc]; have := hall.1; simp only [List.length_append, Array.length_toList] at this; simp only [Array.size_append, List.size_toArray, List.length_append]; omega) hall.2.1 fun j c v hc hv => hall.2.2 j c v hc (by rw [hzc, ← Array.getElem?_toList] at hv; simpa using hv))
      (h.fresh (Nat.le_refl _)) rfl (fun hk => Nat.lt_irrefl _ (h.rlt _ hk)) (fun k c hk e => Nat.lt_irrefl _ (e ▸ (h.mem k c hk).lt))
    unfold Oper.wp
    rw [he]
    refine hK (n + 1) _ (E.add n ⟨w.heap.size, cp', ie.size⟩) _ _ ⟨rfl, .inr ⟨cp', hge, rfl⟩⟩ ((h6.put hd ?_).weak fun i hi => by rcases hi with h | h <;> omega)
    have := Rep.slN (E := E.add n ⟨w.heap.size, cp', ie.size⟩) (w := w.drew.alloc (.cells (olds.toArray ++ news.toArray ++ Builtin.zeroCells z0.cells (cp' - (k + 1))) e)) n 0 (k + 1) (some cp') cp' (.inl rfl) rfl hge
    simpa [Env.add] using this
theorem ExecS.appendQ (hT : TabOk P T) {ops : Array Oper} {o : Oper} {lo : List Oper} {Q : Nat → St → Prop} {c : Call} {x y : Operand} {t e : TypeId} {i ie : TI} (ho : o.op = .call c) (hc1 : c.callee = .builtin .append) (hc2 : c.args.toList = [x, y]) (hc3 : c.argTypes.toList = [t, t]) (hg : guardS ops ns s o = some true) (hi : T t = some i) (hk : i.kind = .slice e) (hie : T e = some ie)
    {id off k cp : Nat} {cells : List SV} {yv : SV} {row : List Dat} (hx : opd ns s x = some (.sl id off k (some cp))) (hm : s.mem id = some (.box e cells false)) (hle : off + cp * ie.size ≤ cells.length) (hkc : k ≤ cp) (hy : opd ns s y = some yv) (hsrc : srcRows s.mem ie.size yv = some [row]) (hf : fitsB (k + 1) ie.bytes = true)
    (h : ∀ n' s', AppQ n s o.dst e ie id off k cp cells row n' s' → ExecS P r ns ops n' lo s' Q) : ExecS P r ns ops n (o :: lo) s Q :=
  ⟨hg, _, stepI_appendQ hT (by rw [call_eq hc1 hc2 hc3] at ho; exact ho) hi hk hie hx hm hle hkc hy hsrc hf, h⟩
theorem stepI_rest (hT : TabOk P T) {o : Oper} {x y : Operand} {t e : TypeId} {i ie : TI} {kd : IntKind} {id off k cp lo : Nat} (ho : o.op = .slice t x (some y) none none) (hi : T t = some i) (hk : i.kind = .slice e) (hie : T e = some ie) (hx : opd ns s x = some (.sl id off k (some cp))) (hy : opd ns s y = some (.d (.val (.int kd lo)))) (hl : lo ≤ k) (hkc : k ≤ cp) :
    StepI P r ns n s o fun n' s' => n' = n ∧ s' = ⟨setSlot s.slots o.dst (.sl id (if cp = lo then off else off + lo * ie.size) (k - lo) (some (cp - lo))), s.mem⟩ := by
  intro W0 R0 B E a w hin h hd K Q hK
  refine oper_in (fun c e => by rw [ho] at e; cases e) ?_
  have hr := h.opd hx
  have hyv := rep_int (h.opd hy)
  have hc : sliceC T i (.sl id off k (some cp)) (some (lo : Int)) none none = some (.sl id (if cp = lo then off else off + lo * ie.size) (k - lo) (some (cp - lo))) := by
    have h1 : (lo : Int) ≤ k := by omega
    have h2 : (k : Int) ≤ cp := by omega
    have h3 : ((cp : Int) = lo) = (cp = lo) := by simp [Int.natCast_inj]
    simp [sliceC, hk, hie, h1, h2, h3]
  obtain ⟨z, h1, h2⟩ := sliceC_run (w := w) hT hi (Bd.some kd lo) Bd.none Bd.none hc hr
  unfold Oper.wp
  have he : (execOp a.eval o).run P w = .ok (.value z) w := by
    simp only [execOp, ho, Sem.run_bind]
    simp [hyv, h1]
  rw [he]
  exact hK n _ E _ w ⟨rfl, rfl⟩ (h.put hd h2)
theorem ExecS.rest (hT : TabOk P T) {ops : Array Oper} {o : Oper} {lo : List Oper} {Q : Nat → St → Prop} {x y : Operand} {t e : TypeId} {i ie : TI} {kd : IntKind} {id off k cp l : Nat} (ho : o.op = .slice t x (some y) none none) (hg : guardS ops ns s o = some true) (hi : T t = some i) (hk : i.kind = .slice e) (hie : T e = some ie) (hx : opd ns s x = some (.sl id off k (some cp))) (hy : opd ns s y = some (.d (.val (.int kd l)))) (hl : l ≤ k) (hkc : k ≤ cp)
    (h : ExecS P r ns ops n lo ⟨setSlot s.slots o.dst (.sl id (if cp = l then off else off + l * ie.size) (k - l) (some (cp - l))), s.mem⟩ Q) : ExecS P r ns ops n (o :: lo) s Q :=
  ⟨hg, _, stepI_rest hT ho hi hk hie hx hy hl hkc, fun n' s' ⟨e1, e2⟩ => by rw [e1, e2]; exact h⟩
theorem ExecS.index (hT : TabOk P T) {ops : Array Oper} {o : Oper} {lo : List Oper} {Q : Nat → St → Prop} {x y : Operand} {t e : TypeId} {i ie : TI} {kd : IntKind} {id off k j : Nat} {c : Option Nat} (ho : o.op = .indexAddr t x y) (hg : guardS ops ns s o = some true) (hi : T t = some i) (hk : i.kind = .slice e) (hie : T e = some ie) (hx : opd ns s x = some (.sl id off k c)) (hy : opd ns s y = some (.d (.val (.int kd j)))) (hj : j < k)
    (h : ExecS P r ns ops n lo ⟨setSlot s.slots o.dst (.ptr id 0 (off + j * ie.size)), s.mem⟩ Q) : ExecS P r ns ops n (o :: lo) s Q :=
  ⟨hg, fun n' s' => n' = n ∧ s' = ⟨setSlot s.slots o.dst (.ptr id 0 (off + j * ie.size)), s.mem⟩, fun W0 R0 B E a w hin hs hd K Q' hK => by
    have hr := hs.opd hx
    have hyv := rep_int (hs.opd hy)
    have hc : indexC T i (j : Int) (.sl id off k c) = some (.ptr id 0 (off + j * ie.size)) := by
      have h1 : (j : Int) < k := by omega
      simp [indexC, hk, hie, h1]
    obtain ⟨z, h1, h2⟩ := indexC_run (w := w) hT hi (ik := kd) hc hr
    refine oper_in (fun c e => by rw [ho] at e; cases e) ?_
    unfold Oper.wp
    have he : (execOp a.eval o).run P w = .ok (.value z) w := by
      simp only [execOp, ho, Sem.run_bind]
      simp [hyv, h1]
    rw [he]
    exact hK n _ E _ w ⟨rfl, rfl⟩ (hs.put hd h2), fun n' s' ⟨e1, e2⟩ => by rw [e1, e2]; exact h⟩
theorem ExecS.len (hT : TabOk P T) {ops : Array Oper} {o : Oper} {lo : List Oper} {Q : Nat → St → Prop} {cl : Call} {x : Operand} {t e : TypeId} {i : TI} {id off k : Nat} {c : Option Nat} (ho : o.op = .call cl) (hc1 : cl.callee = .builtin .len) (hc2 : cl.args.toList = [x]) (hc3 : cl.argTypes.toList = [t]) (hg : guardS ops ns s o = some true) (hi : T t = some i) (hk : i.kind = .slice e) (hx : opd ns s x = some (.sl id off k c))
    (h : ExecS P r ns ops n lo ⟨setSlot s.slots o.dst (.d (.val (.int .i64 k))), s.mem⟩ Q) : ExecS P r ns ops n (o :: lo) s Q :=
  ⟨hg, fun n' s' => n' = n ∧ s' = ⟨setSlot s.slots o.dst (.d (.val (.int .i64 k))), s.mem⟩, fun W0 R0 B E a w hin hs hd K Q' hK => by
    rw [call_eq hc1 hc2 hc3] at ho
    have hu := slice_und (hT t i hi) hk
    obtain ⟨u, hu'⟩ : ∃ u, a.eval x = u := ⟨_, rfl⟩
    have hr := hs.opd hx
    rw [hu'] at hr
    cases hr with
    | sl _ _ _ _ q0 cd hdm hcd hq hnd =>
    refine oper_in (fun c e => by rw [ho] at e; cases e) ?_
    unfold Oper.wp
    have he : (execOp a.eval o).run P w = .ok (.value (goInt k)) w := by
      simp [execOp, ho, resolve, invoke, builtin, hu', Builtin.len_, run_underlying hu]
    rw [he]
    exact hK n _ E _ w ⟨rfl, rfl⟩ (hs.put hd (rep_val rfl)), fun n' s' ⟨e1, e2⟩ => by rw [e1, e2]; exact h⟩
theorem ExecS.lit (hT : TabOk P T) {ops : Array Oper} {o : Oper} {lo : List Oper} {Q : Nat → St → Prop} {t e : TypeId} {len : Nat} {ps : Array (Nat × Operand)} (ho : o.op = .buildSlice t len ps) (hg : guardS ops ns s o = some true) {i ie : TI} (hi : T t = some i) (hk : i.kind = .slice e) (hie : T e = some ie)
    {l : List (Nat × SV)} (hev : evParts (opd ns s) ps.toList = some l) {cells : List SV} (hr : fillSV (fun k => some (k * ie.size, ie.size)) (zerosC ie (len * ie.size)) l = some cells) (h2 : len * ie.size ≤ 16777216)
    (h : ExecS P r ns ops (n + 1) lo ⟨setSlot s.slots o.dst (.sl n 0 len (some len)), setMem s.mem n (some (.box e cells false))⟩ Q) : ExecS P r ns ops n (o :: lo) s Q :=
  ⟨hg, fun n' s' => n' = n + 1 ∧ s' = ⟨setSlot s.slots o.dst (.sl n 0 len (some len)), setMem s.mem n (some (.box e cells false))⟩, fun W0 R0 B E a w hin hs hd K Q' hK => by
    have hu := slice_und (hT t i hi) hk
    obtain ⟨inf, z0, i1, i4, i2, i3, hzs, hz⟩ := zeros_reps (E := E) (w := w) hT hie
    obtain ⟨p1, p2⟩ := evParts_rep (w := w) (E := E) (ev := opd ns s) (ρ := a.eval) (fun x v hx => hs.opd hx) hev
    obtain ⟨C, b1, b2⟩ := fill_run (E := E) (w := w) (pl := fun k => some (k * ie.size, ie.size)) (place := fun k => some (k * ie.size, ie.size)) (fun k x hx => hx) l (ps.toList.map fun (i, x) => (i, a.eval x)) _ cells (madeCells z0.cells (len * ie.size)) (by simpa using p1) p2 (hz _) hr
    have hsz : (Go.sizeOf e).run P w = .ok ie.size w := (hT e ie hie).sizeOf w
    have hzv : (zeroValue e).run P w = .ok z0 w := by simp [zeroValue, typeInfo, i1, i4]
    have hrun : (Instr.buildSlice t len (ps.map fun (i, x) => (i, a.eval x))).run P w = .ok (.slice (some ⟨w.heap.size, 0, none⟩) len len) (w.alloc (.cells C e)) := by
      unfold Instr.buildSlice
      simp only [Sem.run_bind, run_underlying hu, Result.andThen_ok, hsz]
      rw [if_neg (by omega)]
      unfold madeCells at b1
      by_cases hn : len * ie.size = 0
      · rw [hn] at b1
        simp only [Array.range_zero', Array.map_empty] at b1
        simp [hn, newRow, Array.range_zero', b1]
      · simp [hn, hzv, b1, newRow]
    have hb : Below w.heap.size w (w.alloc (.cells C e)) := (Below.refl _ _).alloc (Nat.le_refl _) _
    have hro : ∀ b, E.ro b → (w.alloc (.cells C e)).heap[b]? = w.heap[b]? := fun b hb' => hb.block b (hs.rlt b hb')
    have hid : ¬ E.dom n := fun hk => Nat.lt_irrefl _ (hs.dom n hk)
    have hE := E.le_add n ⟨w.heap.size, len, ie.size⟩ hid
    have hall := b2.keep hE hro
    have h6 := hs.new (w' := w.alloc (.cells C e)) (i := n) (by omega) (.box e cells false) ⟨w.heap.size, len, ie.size⟩ (hs.kept hb) hro (fun k c hk => hb.block _ (hs.mem k c hk).lt)
      (.box e _ _ C (heap_alloc_new w _) (by have := hall.1; simpa using this) hall.2.1 fun j c v hc hv => hall.2.2 j c v hc (by simpa using hv))
      (hs.fresh (Nat.le_refl _)) rfl (fun hk => Nat.lt_irrefl _ (hs.rlt _ hk)) (fun k c hk e => Nat.lt_irrefl _ (e ▸ (hs.mem k c hk).lt))
    refine oper_in (fun c e => by rw [ho] at e; cases e) ?_
    unfold Oper.wp
    have he : (execOp a.eval o).run P w = .ok (.value (.slice (some ⟨w.heap.size, 0, none⟩) len len)) (w.alloc (.cells C e)) := by
      simp only [execOp, ho, Sem.run_bind, hrun, Result.andThen_ok]
      rfl
    rw [he]
    refine hK (n + 1) _ (E.add n ⟨w.heap.size, len, ie.size⟩) _ _ ⟨rfl, rfl⟩ ((h6.put hd ?_).weak fun i hi => by rcases hi with h | h <;> omega)
    have := Rep.slN (E := E.add n ⟨w.heap.size, len, ie.size⟩) (w := w.alloc (.cells C e)) n 0 len (some len) len (.inl rfl) rfl (Nat.le_refl _)
    simpa [Env.add] using this, fun n' s' ⟨e1, e2⟩ => by rw [e1, e2]; exact h⟩
end Go.Proofs.Ytcmkkgdjhjpldaa.Eng

namespace Go.Proofs.Ytcmkkgdjhjpldaa.Eng
open Go.RowKit
variable {P : Program} {T : Tab} {r : Option Nat} {ns n : Nat} {s : St}
abbrev mapB (i : MapI) (es : List (List Int × SV × Nat)) (clock : Nat) : Blk := .map (es.map fun q => (keyVal i.agg i.kk q.1, q.2)) clock false
theorem stepI_delete {M : MTab} (hM : MTabOk P M) {o : Oper} {x y : Operand} {t t' : TypeId} (ho : o.op = .call { callee := .builtin .delete, args := #[x, y], argTypes := #[t, t'] }) {i : MapI} (hi : M t = some i) {id clock : Nat} {es : List (List Int × SV × Nat)} {kv : SV} {l : List Int} {j : Nat}
    (hx : opd ns s x = some (.mp id)) (hm : s.mem id = some (mapB i es clock)) (hy : opd ns s y = some kv) (hl : keyOf i kv = some l) (hlen : es.all (fun q => q.1.length == i.kk.length) = true) (hj : findK l (es.map (·.1)) 0 = some j) :
    StepI P r ns n s o fun n' s' => n' = n ∧ s' = { slots := setSlot s.slots o.dst (.tup []), mem := setMem s.mem id (some (mapB i (es.eraseIdx j) clock)) } := by
  intro W0 R0 B E a w hin h hd K Q hK
  refine oper_in (fun c e => by rw [ho] at e; cases e) ?_
  have H := hM t i hi
  obtain ⟨u, hu⟩ : ∃ u, a.eval x = u := ⟨_, rfl⟩
  have hr := h.opd hx
  rw [hu] at hr
  obtain ⟨e1, e2⟩ := keyOf_spec H.one hl (h.opd hy)
  cases hr with
  | mp _ hdm =>
    have Hb := h.mem id _ hm
    cases Hb with
    | map _ _ _ ents h1 h2 h3 =>
      rw [List.length_map] at h2
      have h4 : ∀ (j : Nat) q e, es[j]? = some q → ents[j]? = some e → e.key = keyVal i.agg i.kk q.1 ∧ e.born = q.2.2 ∧ Rep E w q.2.1 e.val := fun j q e hq he => h3 j (keyVal i.agg i.kk q.1, q.2) e (by rw [List.getElem?_map, hq]; rfl) he
      have hks : ents.toList.map (·.key) = (es.map (·.1)).map (keyVal i.agg i.kk) := by
        apply List.ext_getElem?
        intro j
        simp only [List.getElem?_map, Array.getElem?_toList]
        by_cases hj : j < es.length
        · rw [List.getElem?_eq_getElem hj, Array.getElem?_eq_getElem (show j < ents.size by omega)]
          simp only [Option.map_some]
          rw [(h4 j _ _ (List.getElem?_eq_getElem hj) (Array.getElem?_eq_getElem (show j < ents.size by omega))).1]
        · rw [List.getElem?_eq_none (by omega), Array.getElem?_eq_none (by omega)]
          rfl
      have hf := H.find w l ents.toList (es.map (·.1)) e2 (fun q hq => by
        obtain ⟨p, hp, rfl⟩ := List.mem_map.1 hq
        simpa using List.all_eq_true.1 hlen p hp) hks
      obtain ⟨b, hb1, hb2⟩ := findK_lt _ hj
      rw [List.getElem?_map, Option.map_eq_some_iff] at hb1
      obtain ⟨q, hq, hqb⟩ := hb1
      have hjl : j < ents.size := by have := (List.getElem?_eq_some_iff.1 hq).1; omega
      rw [hj] at hf
      simp only [Option.bind_some, Array.getElem?_toList, Array.getElem?_eq_getElem hjl, Option.map_some] at hf
      have hset : ∀ (es' : Array MapEntry) (c' : Nat), (setObj (E.home id).blk (.map es' c')).run P w = .ok () (w.putObj (E.home id).blk (.map es' c')) := fun es' c' => MapKept.run_setObj_map _ h1
      have hel : (ents.eraseIdxIfInBounds j).toList = ents.toList.eraseIdx j := by simp [Array.eraseIdxIfInBounds, hjl]
      have hrun : (execOp a.eval o).run P w = .ok (.value (.tuple #[])) (w.putObj (E.home id).blk (.map (ents.eraseIdxIfInBounds j) clock)) := by
        have h0 : (Builtin.delete_ #[t, t'] o.type #[.map (some (E.home id).blk), a.eval y]).run P w = .ok (.tuple #[]) (w.putObj (E.home id).blk (.map (ents.eraseIdxIfInBounds j) clock)) := by
          simp [e1, Builtin.delete_, run_underlying H.und, MapKept.run_getObj_map h1, H.check _ w l e2, hf, hset]
        simp only [execOp, ho, resolve, invoke, builtin, Sem.run_bind, Sem.run_pure, Result.andThen_ok, List.map_toArray, List.map_cons, List.map_nil, hu, h0]
      unfold Oper.wp
      rw [hrun]
      have hlt2 : (E.home id).blk < w.heap.size := (Array.getElem?_eq_some_iff.1 h1).1
      have hg : w.grownBy (w.putObj (E.home id).blk (.map (ents.eraseIdxIfInBounds j) clock)) (some (E.home id).blk) :=
        ⟨rfl, rfl, rfl, by simp [World.putObj], fun k hk hne => by
          simp only [World.putObj]
          rw [Array.getElem?_setIfInBounds_ne (fun e => hne (by rw [e]))]⟩
      have hself : (w.putObj (E.home id).blk (.map (ents.eraseIdxIfInBounds j) clock)).heap[(E.home id).blk]? = some (.map (ents.eraseIdxIfInBounds j) clock) := by
        simp [World.putObj, hlt2]
      have hrw : ∀ b, E.ro b → (w.putObj (E.home id).blk (.map (ents.eraseIdxIfInBounds j) clock)).heap[b]? = w.heap[b]? := fun b hb => hg.block b (h.rlt b hb) fun e => by
        have := (h.frz id _ hm).2 (Option.some.inj e ▸ hb)
        simp [Blk.frz] at this
      have key := h.write (b' := mapB i (es.eraseIdx j) clock) hm rfl rfl hg (.map _ _ _ (ents.eraseIdxIfInBounds j) hself (by
        rw [List.length_map, ← Array.length_toList, hel, List.length_eraseIdx, List.length_eraseIdx, Array.length_toList, h2]) fun k p e hp hpe => by
        rw [List.getElem?_map, Option.map_eq_some_iff] at hp
        obtain ⟨p', hp', rfl⟩ := hp
        rw [← Array.getElem?_toList, hel] at hpe
        rw [List.getElem?_eraseIdx] at hp' hpe
        have fin : ∀ k, es[k]? = some p' → ents.toList[k]? = some e → e.key = keyVal i.agg i.kk p'.1 ∧ e.born = p'.2.2 ∧ Rep E (w.putObj (E.home id).blk (.map (ents.eraseIdxIfInBounds j) clock)) p'.2.1 e.val := fun k a1 a2 => by
          obtain ⟨k1, k2, k3⟩ := h4 k p' e a1 (by rw [← Array.getElem?_toList]; exact a2)
          exact ⟨k1, k2, k3.keep (Env.le.refl E) hrw⟩
        by_cases hk : k < j
        · rw [if_pos hk] at hp' hpe
          exact fin k hp' hpe
        · rw [if_neg hk] at hp' hpe
          exact fin (k + 1) hp' hpe)
      exact hK n _ E _ _ ⟨rfl, rfl⟩ (key.put hd (.tup [] #[] rfl (by simp)))
end Go.Proofs.Ytcmkkgdjhjpldaa.Eng

noncomputable section
namespace Go.Proofs.Ytcmkkgdjhjpldaa.Eng
open Go.RowKit
variable {P : Program} {T : Tab} {r : Option Nat} {ns n : Nat} {s : St}
theorem map_keys {E : Env} {w : World} {i : MapI} {es : List (List Int × SV × Nat)} {ents : Array MapEntry} (h2 : ents.size = es.length) (h4 : ∀ (j : Nat) q e, es[j]? = some q → ents[j]? = some e → e.key = keyVal i.agg i.kk q.1 ∧ e.born = q.2.2 ∧ Rep E w q.2.1 e.val) : ents.toList.map (·.key) = (es.map (·.1)).map (keyVal i.agg i.kk) := by
  apply List.ext_getElem?
  intro j
  simp only [List.getElem?_map, Array.getElem?_toList]
  by_cases hj : j < es.length
  · rw [List.getElem?_eq_getElem hj, Array.getElem?_eq_getElem (show j < ents.size by omega)]
    simp only [Option.map_some]
    rw [(h4 j _ _ (List.getElem?_eq_getElem hj) (Array.getElem?_eq_getElem (show j < ents.size by omega))).1]
  · rw [List.getElem?_eq_none (by omega), Array.getElem?_eq_none (by omega)]
    rfl
def lookV (i : MapI) (es : List (List Int × SV × Nat)) (l : List Int) (ok : Bool) : SV := match (findK l (es.map (·.1)) 0).bind fun j => es[j]? with
  | some q => if ok then .tup [q.2.1, .d (.val (.bool true))] else q.2.1
  | none => if ok then .tup [i.zero, .d (.val (.bool false))] else i.zero
theorem stepI_lookup {M : MTab} (hM : MTabOk P M) {o : Oper} {x y : Operand} {t : TypeId} {ok : Bool} (ho : o.op = .lookup t x y ok) {i : MapI} (hi : M t = some i) {id clock : Nat} {es : List (List Int × SV × Nat)} {kv : SV} {l : List Int}
    (hx : opd ns s x = some (.mp id)) (hm : s.mem id = some (mapB i es clock)) (hy : opd ns s y = some kv) (hl : keyOf i kv = some l) (hlen : es.all (fun q => q.1.length == i.kk.length) = true) :
    StepI P r ns n s o fun n' s' => n' = n ∧ s' = { slots := setSlot s.slots o.dst (lookV i es l ok), mem := s.mem } := by
  intro W0 R0 B E a w hin h hd K Q hK
  refine oper_in (fun c e => by rw [ho] at e; cases e) ?_
  have H := hM t i hi
  obtain ⟨u, hu⟩ : ∃ u, a.eval x = u := ⟨_, rfl⟩
  have hr := h.opd hx
  rw [hu] at hr
  obtain ⟨e1, e2⟩ := keyOf_spec H.one hl (h.opd hy)
  cases hr with
  | mp _ hdm =>
    have Hb := h.mem id _ hm
    cases Hb with
    | map _ _ _ ents h1 h2 h3 =>
      rw [List.length_map] at h2
      have h4 : ∀ (j : Nat) q e, es[j]? = some q → ents[j]? = some e → e.key = keyVal i.agg i.kk q.1 ∧ e.born = q.2.2 ∧ Rep E w q.2.1 e.val := fun j q e hq he => h3 j (keyVal i.agg i.kk q.1, q.2) e (by rw [List.getElem?_map, hq]; rfl) he
      have hks := map_keys h2 h4
      have hf := H.find w l ents.toList (es.map (·.1)) e2 (fun q hq => by
        obtain ⟨p, hp, rfl⟩ := List.mem_map.1 hq
        simpa using List.all_eq_true.1 hlen p hp) hks
      obtain ⟨z, hz1, hz2⟩ := H.zero
      obtain ⟨v, hv1, hv2⟩ : ∃ v, (Instr.lookup t (.map (some (E.home id).blk)) (a.eval y) ok).run P w = .ok v w ∧ Rep E w (lookV i es l ok) v := by
        unfold lookV
        rw [e1]
        cases hq : (findK l (es.map (·.1)) 0).bind fun j => es[j]? with
        | some q =>
          have hq0 := hq
          rw [Option.bind_eq_some_iff] at hq
          obtain ⟨j, hj, hq⟩ := hq
          have hjl : j < ents.size := by have := (List.getElem?_eq_some_iff.1 hq).1; omega
          have he := h4 j q _ hq (Array.getElem?_eq_getElem hjl)
          rw [hj] at hf
          simp only [Option.bind_some, Array.getElem?_toList, Array.getElem?_eq_getElem hjl, Option.map_some] at hf
          refine ⟨if ok then .tuple #[ents[j].val, .bool true] else ents[j].val, ?_, ?_⟩
          · simp [Instr.lookup, run_underlying H.und, MapKept.run_getObj_map h1, H.check _ w l e2, hf]
          · cases ok with
            | true => exact tup2 he.2.2 (rep_val rfl)
            | false => exact he.2.2
        | none =>
          have hf2 : (Instr.findKey i.key (keyVal i.agg i.kk l) ents.toList).run P w = .ok none w := by
            rw [hf]
            congr 1
            cases hj : findK l (es.map (·.1)) 0 with
            | none => rfl
            | some j =>
              rw [hj] at hq
              simp only [Option.bind_some] at hq
              have : es.length ≤ j := by simpa using hq
              simp only [Option.bind_some, Array.getElem?_toList, Array.getElem?_eq_none (show ents.size ≤ j by omega), Option.map_none]
          refine ⟨if ok then .tuple #[z, .bool false] else z, ?_, ?_⟩
          · simp [Instr.lookup, run_underlying H.und, MapKept.run_getObj_map h1, H.check _ w l e2, hf2, hz1 w]
          · cases ok with
            | true => exact tup2 (hz2 E w) (rep_val rfl)
            | false => exact hz2 E w
      have he : (execOp a.eval o).run P w = .ok (.value v) w := by
        simp [execOp, ho, hu, hv1]
      unfold Oper.wp
      rw [he]
      exact hK n _ E _ _ ⟨rfl, rfl⟩ (h.put hd hv2)
theorem insert_run {M : MTab} (hM : MTabOk P M) {W0 : Fix} {R0 D : Nat → Prop} {E : Env} {a : Act} {w : World} (h : Sim W0 R0 ns D s E a w) {o : Oper} {x y z : Operand} {t : TypeId} (ho : o.op = .mapUpdate t x y z ∨ o.op = .insert t x y z) {i : MapI} (hi : M t = some i) {id clock : Nat} {es : List (List Int × SV × Nat)} {kv vv : SV} {l : List Int}
    (hx : opd ns s x = some (.mp id)) (hm : s.mem id = some (mapB i es clock)) (hy : opd ns s y = some kv) (hl : keyOf i kv = some l) (hlen : es.all (fun q => q.1.length == i.kk.length) = true) (hj : findK l (es.map (·.1)) 0 = none) (hz : opd ns s z = some vv) :
    ∃ w', (execOp a.eval o).run P w = .ok .skip w' ∧ Sim W0 R0 ns D ⟨s.slots, setMem s.mem id (some (mapB i (es ++ [(l, vv, clock)]) (clock + 1)))⟩ E a w' := by
  have H := hM t i hi
  obtain ⟨u, hu⟩ : ∃ u, a.eval x = u := ⟨_, rfl⟩
  have hr := h.opd hx
  rw [hu] at hr
  obtain ⟨e1, e2⟩ := keyOf_spec H.one hl (h.opd hy)
  have hzv := h.opd hz
  cases hr with
  | mp _ hdm =>
    have Hb := h.mem id _ hm
    cases Hb with
    | map _ _ _ ents h1 h2 h3 =>
      rw [List.length_map] at h2
      have h4 : ∀ (j : Nat) q e, es[j]? = some q → ents[j]? = some e → e.key = keyVal i.agg i.kk q.1 ∧ e.born = q.2.2 ∧ Rep E w q.2.1 e.val := fun j q e hq he => h3 j (keyVal i.agg i.kk q.1, q.2) e (by rw [List.getElem?_map, hq]; rfl) he
      have hks := map_keys h2 h4
      have hf := H.find w l ents.toList (es.map (·.1)) e2 (fun q hq => by
        obtain ⟨p, hp, rfl⟩ := List.mem_map.1 hq
        simpa using List.all_eq_true.1 hlen p hp) hks
      rw [hj] at hf
      simp only [Option.bind_none] at hf
      have hset : ∀ (es' : Array MapEntry) (c' : Nat), (setObj (E.home id).blk (.map es' c')).run P w = .ok () (w.putObj (E.home id).blk (.map es' c')) := fun es' c' => MapKept.run_setObj_map _ h1
      have hrun : (execOp a.eval o).run P w = .ok .skip (w.putObj (E.home id).blk (.map (ents.push { key := keyVal i.agg i.kk l, val := a.eval z, born := clock }) (clock + 1))) := by
        rcases ho with ho | ho <;> simp [execOp, ho, hu, e1, Instr.mapUpdate, run_underlying H.und, MapKept.run_getObj_map h1, H.check _ w l e2, hf, hset]
      have hro : ¬ E.ro (E.home id).blk := fun k => by have := (h.frz id _ hm).2 k; cases this
      have hlt : (E.home id).blk < w.heap.size := (Array.getElem?_eq_some_iff.1 h1).1
      have hk : ∀ b, E.ro b → (w.putObj (E.home id).blk (.map (ents.push { key := keyVal i.agg i.kk l, val := a.eval z, born := clock }) (clock + 1))).heap[b]? = w.heap[b]? := fun b hb => World.putObj_heap_other fun e => hro (e ▸ hb)
      have key := h.write (b' := mapB i (es ++ [(l, vv, clock)]) (clock + 1)) hm rfl rfl (grownBy_putObj' w (E.home id).blk (.map (ents.push { key := keyVal i.agg i.kk l, val := a.eval z, born := clock }) (clock + 1))) (.map _ _ _ (ents.push { key := keyVal i.agg i.kk l, val := a.eval z, born := clock }) (World.putObj_heap_same hlt) (by simp [h2]) fun k q e hq he => by
        rw [List.getElem?_map, Option.map_eq_some_iff] at hq
        obtain ⟨p, hp, rfl⟩ := hq
        by_cases hk2 : k < es.length
        · rw [List.getElem?_append_left hk2] at hp
          rw [Array.getElem?_push, if_neg (by omega)] at he
          obtain ⟨a1, a2, a3⟩ := h4 k p e hp he
          exact ⟨a1, a2, a3.keep (Env.le.refl E) hk⟩
        · rw [List.getElem?_append_right (by omega)] at hp
          have hk0 : k = es.length := by
            have := (List.getElem?_eq_some_iff.1 hp).1
            simp at this
            omega
          subst hk0
          simp at hp
          rw [Array.getElem?_push, if_pos h2.symm] at he
          cases hp; cases he
          exact ⟨rfl, rfl, hzv.keep (Env.le.refl E) hk⟩)
      exact ⟨_, hrun, key⟩
theorem stepI_insert {M : MTab} (hM : MTabOk P M) {o : Oper} {x y z : Operand} {t : TypeId} (ho : o.op = .mapUpdate t x y z ∨ o.op = .insert t x y z) {i : MapI} (hi : M t = some i) {id clock : Nat} {es : List (List Int × SV × Nat)} {kv vv : SV} {l : List Int}
    (hx : opd ns s x = some (.mp id)) (hm : s.mem id = some (mapB i es clock)) (hy : opd ns s y = some kv) (hl : keyOf i kv = some l) (hlen : es.all (fun q => q.1.length == i.kk.length) = true) (hj : findK l (es.map (·.1)) 0 = none) (hz : opd ns s z = some vv) :
    StepI P r ns n s o fun n' s' => n' = n ∧ s' = { slots := setSlot s.slots o.dst .und, mem := setMem s.mem id (some (mapB i (es ++ [(l, vv, clock)]) (clock + 1))) } := by
  intro W0 R0 B E a w hin h hd K Q hK
  refine oper_in (fun c e => by rcases ho with ho | ho <;> rw [ho] at e <;> cases e) ?_
  obtain ⟨w', hrun, key⟩ := insert_run hM h ho hi hx hm hy hl hlen hj hz
  unfold Oper.wp
  rw [hrun]
  exact hK n _ E _ _ ⟨rfl, rfl⟩ (key.put hd (Rep.und (E := E) (w := w') undef))
theorem ExecS.lookup {M : MTab} (hM : MTabOk P M) {ops : Array Oper} {o : Oper} {lo : List Oper} {Q : Nat → St → Prop} {x y : Operand} {t : TypeId} {ok : Bool} (ho : o.op = .lookup t x y ok) {i : MapI} {id clock : Nat} {es : List (List Int × SV × Nat)} {kv : SV} {l : List Int} (hg : guardS ops ns s o = some true) (hi : M t = some i)
    (hx : opd ns s x = some (.mp id)) (hm : s.mem id = some (mapB i es clock)) (hy : opd ns s y = some kv) (hl : keyOf i kv = some l) (hlen : es.all (fun q => q.1.length == i.kk.length) = true)
    (h : ExecS P r ns ops n lo { slots := setSlot s.slots o.dst (lookV i es l ok), mem := s.mem } Q) : ExecS P r ns ops n (o :: lo) s Q :=
  ⟨hg, _, stepI_lookup hM ho hi hx hm hy hl hlen, fun n' s' ⟨e1, e2⟩ => by rw [e1, e2]; exact h⟩
theorem ExecS.insert {M : MTab} (hM : MTabOk P M) {ops : Array Oper} {o : Oper} {lo : List Oper} {Q : Nat → St → Prop} {x y z : Operand} {t : TypeId} (ho : o.op = .mapUpdate t x y z ∨ o.op = .insert t x y z) {i : MapI} {id clock : Nat} {es : List (List Int × SV × Nat)} {kv vv : SV} {l : List Int} (hg : guardS ops ns s o = some true) (hi : M t = some i)
    (hx : opd ns s x = some (.mp id)) (hm : s.mem id = some (mapB i es clock)) (hy : opd ns s y = some kv) (hl : keyOf i kv = some l) (hlen : es.all (fun q => q.1.length == i.kk.length) = true) (hj : findK l (es.map (·.1)) 0 = none) (hz : opd ns s z = some vv)
    (h : ExecS P r ns ops n lo { slots := setSlot s.slots o.dst .und, mem := setMem s.mem id (some (mapB i (es ++ [(l, vv, clock)]) (clock + 1))) } Q) : ExecS P r ns ops n (o :: lo) s Q :=
  ⟨hg, _, stepI_insert hM ho hi hx hm hy hl hlen hj hz, fun n' s' ⟨e1, e2⟩ => by rw [e1, e2]; exact h⟩
theorem ExecS.delete {M : MTab} (hM : MTabOk P M) {ops : Array Oper} {o : Oper} {lo : List Oper} {Q : Nat → St → Prop} {x y : Operand} {c : Call} {t t' : TypeId} {i : MapI} {id clock : Nat} {es : List (List Int × SV × Nat)} {kv : SV} {l : List Int} {j : Nat} (ho : o.op = .call c) (hc1 : c.callee = .builtin .delete) (hc2 : c.args.toList = [x, y]) (hc3 : c.argTypes.toList = [t, t']) (hg : guardS ops ns s o = some true) (hi : M t = some i)
    (hx : opd ns s x = some (.mp id)) (hm : s.mem id = some (mapB i es clock)) (hy : opd ns s y = some kv) (hl : keyOf i kv = some l) (hlen : es.all (fun q => q.1.length == i.kk.length) = true) (hj : findK l (es.map (·.1)) 0 = some j)
    (h : ExecS P r ns ops n lo { slots := setSlot s.slots o.dst (.tup []), mem := setMem s.mem id (some (mapB i (es.eraseIdx j) clock)) } Q) : ExecS P r ns ops n (o :: lo) s Q :=
  ⟨hg, _, stepI_delete hM (by rw [call_eq hc1 hc2 hc3] at ho; exact ho) hi hx hm hy hl hlen hj, fun n' s' ⟨e1, e2⟩ => by rw [e1, e2]; exact h⟩
section
variable {l0 : List Oper} {n0 : Nat} {o : Oper} {l : List Oper} {acc : List FtV} {Q : Nat → St → Prop}
open Classical in
theorem ExecV.makeMap {t : TypeId} (i : MapI) (hg : guardS l0.toArray ns s o = some true) (ho : o.op = .makeMap t none) (hok : OkV l0 acc.length n0 acc ⟨n, n + 1, [], []⟩)
    (h : ExecV P r ns l0 n0 l (n + 1) ⟨setSlot s.slots o.dst (.mp n), setMem s.mem n (some (mapB i [] 0))⟩ (acc ++ [⟨n, n + 1, [], []⟩]) Q) : ExecV P r ns l0 n0 (o :: l) n s acc Q :=
  ⟨⟨.act (.mp n) [], n, s, n + 1, ⟨setSlot s.slots o.dst (.mp n), setMem s.mem n (some (mapB i [] 0))⟩, []⟩, rfl, rfl, ⟨⟨hg, fun D s' hD hsl _ hrd => by
    intro W0 R0 B E a w hin hs hd K1 Q' hK1
    have hDn : ¬ D n := fun h => hD n h ⟨Nat.le_refl _, Nat.lt_succ_self _⟩
    have hb : Below w.heap.size w (w.alloc (.map #[] 0)) := (Below.refl _ _).alloc (Nat.le_refl _) _
    have hro : ∀ b, E.ro b → (w.alloc (.map #[] 0)).heap[b]? = w.heap[b]? := fun b hb' => hb.block b (hs.rlt b hb')
    have key := hs.new (w' := w.alloc (.map #[] 0)) hDn (mapB i [] 0) ⟨w.heap.size, 0, 0⟩ (hs.kept hb) hro (fun k c hk => hb.block _ (hs.mem k c hk).lt) (.map [] 0 false #[] (heap_alloc_new w _) rfl (by simp)) (hs.fresh (Nat.le_refl _)) rfl (fun hk => Nat.lt_irrefl _ (hs.rlt _ hk)) (fun k c hk e => Nat.lt_irrefl _ (e ▸ (hs.mem k c hk).lt))
    have hm : (fun i' => if i' ∈ ([] : List Nat) ∨ New n (n + 1) i' then setMem s.mem n (some (mapB i [] 0)) i' else s'.mem i') = setMem s'.mem n (some (mapB i [] 0)) := by
      funext i'
      by_cases e : i' = n
      · subst e; rw [if_pos (.inr ⟨Nat.le_refl _, Nat.lt_succ_self _⟩)]; simp [setMem]
      · rw [if_neg (fun h => h.elim (by simp) fun h => e (by have := h.1; have := h.2; omega))]; simp [setMem, e]
    have h4 : Sim W0 R0 ns (fun i => D i ∨ New n (n + 1) i) ⟨s'.slots, setMem s'.mem n (some (mapB i [] 0))⟩ (E.add n ⟨w.heap.size, 0, 0⟩) a (w.alloc (.map #[] 0)) := key.weak fun i hi => hi.elim (fun e => .inr (by subst e; exact ⟨Nat.le_refl _, Nat.lt_succ_self _⟩)) .inl
    have hr : (execOp a.eval o).run P w = .ok (.value (.map (some w.heap.size))) (w.alloc (.map #[] 0)) := by simp [execOp, ho, Instr.makeMap]
    refine oper_in (fun c e => by rw [ho] at e; cases e) ?_
    unfold Oper.wp
    rw [hr]
    refine hK1 (E.add n ⟨w.heap.size, 0, 0⟩) _ (w.alloc (.map #[] 0)) ?_
    rw [hm]
    refine h4.put hd ?_
    have := Rep.mp (E := E.add n ⟨w.heap.size, 0, 0⟩) (w := w.alloc (.map #[] 0)) n (.inl rfl)
    simpa [Env.add] using this, Nat.le_succ _, rfl, fun i hi => by
    have e : ¬ i = n := fun e => hi (.inr (by subst e; exact ⟨Nat.le_refl _, Nat.lt_succ_self _⟩))
    simp [setMem, e]⟩⟩, hok, h⟩
open Classical in
theorem ExecV.insert {M : MTab} (hM : MTabOk P M) {x y z : Operand} {t : TypeId} (ho : o.op = .mapUpdate t x y z ∨ o.op = .insert t x y z) {i : MapI} {id clock : Nat} {es : List (List Int × SV × Nat)} {kv vv : SV} {k : List Int} (hg : guardS l0.toArray ns s o = some true) (hi : M t = some i)
    (hx : opd ns s x = some (.mp id)) (hm : s.mem id = some (mapB i es clock)) (hy : opd ns s y = some kv) (hl : keyOf i kv = some k) (hlen : es.all (fun q => q.1.length == i.kk.length) = true) (hj : findK k (es.map (·.1)) 0 = none) (hz : opd ns s z = some vv) (hok : OkV l0 acc.length n0 acc ⟨n, n, [id], [id]⟩)
    (h : ExecV P r ns l0 n0 l n ⟨setSlot s.slots o.dst .und, setMem s.mem id (some (mapB i (es ++ [(k, vv, clock)]) (clock + 1)))⟩ (acc ++ [⟨n, n, [id], [id]⟩]) Q) : ExecV P r ns l0 n0 (o :: l) n s acc Q :=
  ⟨⟨.act .und [id], n, s, n, ⟨setSlot s.slots o.dst .und, setMem s.mem id (some (mapB i (es ++ [(k, vv, clock)]) (clock + 1)))⟩, [id]⟩, rfl, rfl, ⟨⟨hg, fun D s' hD hsl _ hrd => by
    intro W0 R0 B E a w hin hs hd K1 Q' hK1
    have hop : ∀ q, q ∈ o.op.operands.toList → opd ns s' q = opd ns s q := fun q hq => opd_congr fun t ht => hsl t (mem_slotsOf (ht ▸ hq))
    have hq : ∀ q, (q = x ∨ q = y ∨ q = z) → opd ns s' q = opd ns s q := fun q hq => hop q (by rcases ho with ho | ho <;> rw [ho] <;> rcases hq with rfl | rfl | rfl <;> simp [Op.operands])
    obtain ⟨w', hrun, key⟩ := insert_run hM hs ho hi ((hq x (.inl rfl)).trans hx) ((hrd id List.mem_cons_self).trans hm) ((hq y (.inr (.inl rfl))).trans hy) hl hlen hj ((hq z (.inr (.inr rfl))).trans hz)
    have hmm : (fun i' => if i' ∈ [id] ∨ New n n i' then setMem s.mem id (some (mapB i (es ++ [(k, vv, clock)]) (clock + 1))) i' else s'.mem i') = setMem s'.mem id (some (mapB i (es ++ [(k, vv, clock)]) (clock + 1))) := by
      funext i'
      by_cases e : i' = id
      · subst e; rw [if_pos (.inl List.mem_cons_self)]; simp [setMem]
      · rw [if_neg (fun h => h.elim (fun h => e (List.mem_singleton.1 h)) fun h => by have := h.1; have := h.2; omega)]; simp [setMem, e]
    refine oper_in (fun c e => by rcases ho with ho | ho <;> rw [ho] at e <;> cases e) ?_
    unfold Oper.wp
    rw [hrun]
    refine hK1 E _ w' ?_
    rw [hmm]
    exact (key.put hd (Rep.und (E := E) (w := w') undef)).weak fun i hi => .inl hi, Nat.le_refl _, rfl, fun i hi => by
    have e : ¬ i = id := fun e => hi (.inl (by subst e; exact List.mem_cons_self))
    simp [setMem, e]⟩⟩, hok, h⟩
end
end Go.Proofs.Ytcmkkgdjhjpldaa.Eng

namespace Go.Proofs.Ytcmkkgdjhjpldaa.Eng
open Go.RowKit
def addQ (A B : List HE) (x : HE) : List HE := if x ∈ A ++ B then B else B ++ [x]
def procA (l : List HS) (rs : List (Nat → Int)) (k : Nat) : List HE → List HE → List HE
  | [], B => B
  | a :: A, B => procA l rs k A ((onwX l rs a k).foldl (fun B p => addQ A B p.2) B)
def marksA (l : List HS) (rs : List (Nat → Int)) (A : List HE) : List Nat := A.flatMap fun a => (onwX l rs a 1).map (·.1)
def endsG (l : List HS) (rs : List (Nat → Int)) : Nat → List HE → List Nat
  | 0, _ => []
  | k + 1, A => (if k = 0 then marksA l rs A else []) ++ endsG l rs k (procA l rs (k + 1) A [])
def todoG (l : List HS) (rs : List (Nat → Int)) : Nat → List HE → Nat
  | 0, A => A.length
  | k + 1, A => A.length + todoG l rs k (procA l rs (k + 1) A [])
def restG (l : List HS) (rs : List (Nat → Int)) : Nat → List HE → List HE → List Nat
  | 0, _, _ => []
  | k + 1, A, B => (if k = 0 then marksA l rs A else []) ++ endsG l rs k (procA l rs (k + 1) A B)
def muG (l : List HS) (rs : List (Nat → Int)) : Nat → List HE → List HE → Nat
  | 0, A, _ => A.length
  | k + 1, A, B => A.length + todoG l rs k (procA l rs (k + 1) A B)
theorem endsG_nil (l : List HS) (rs : List (Nat → Int)) : ∀ k, endsG l rs k [] = []
  | 0 => rfl
  | k + 1 => by
    rw [endsG, procA, endsG_nil l rs k]
    split <;> rfl
theorem restG_nil (l : List HS) (rs : List (Nat → Int)) (k : Nat) : restG l rs k [] [] = [] := by
  cases k with
  | zero => rfl
  | succ k =>
    rw [restG, procA, endsG_nil]
    split <;> rfl
theorem restG_new (l : List HS) (rs : List (Nat → Int)) (k : Nat) (B : List HE) : restG l rs (k + 1) [] B = restG l rs k B [] := by
  rw [restG, procA]
  cases k with
  | zero => rfl
  | succ k => rfl
theorem muG_new (l : List HS) (rs : List (Nat → Int)) (k : Nat) (B : List HE) : muG l rs (k + 1) [] B = muG l rs k B [] := by
  rw [muG, procA]
  cases k with
  | zero => simp [todoG, muG]
  | succ k => simp [todoG, muG]
theorem restG_one (l : List HS) (rs : List (Nat → Int)) (k : Nat) (a : HE) (A B : List HE) (st : Nat) : st ∈ restG l rs k (a :: A) B ↔ (k = 1 ∧ st ∈ (onwX l rs a 1).map (·.1)) ∨ st ∈ restG l rs k A ((onwX l rs a k).foldl (fun B p => addQ A B p.2) B) := by
  cases k with
  | zero => simp [restG]
  | succ k =>
    rw [restG, restG, procA]
    by_cases hk : k = 0
    · subst hk
      simp only [if_true, List.mem_append, marksA, List.flatMap_cons, Nat.zero_add, true_and]
      constructor
      · rintro ((h | h) | h)
        · exact .inl h
        · exact .inr (.inl h)
        · exact .inr (.inr h)
      · rintro (h | h | h)
        · exact .inl (.inl h)
        · exact .inl (.inr h)
        · exact .inr h
    · simp [hk]
theorem muG_one (l : List HS) (rs : List (Nat → Int)) (k : Nat) (a : HE) (A B : List HE) : muG l rs k (a :: A) B = muG l rs k A ((onwX l rs a k).foldl (fun B p => addQ A B p.2) B) + 1 := by
  cases k with
  | zero => simp [muG]
  | succ k => rw [muG, muG, procA, List.length_cons]; omega
def endsO (l : List HS) (e g : HE) : List Int := if chkErr l [e, g] = 0 then (match needN l g e with
  | some k => ((List.range 6).filter fun i => decide (i ∈ endsG l ((rowsG l g).take k) k [e])).map fun i : Nat => (i : Int)
  | none => []) else []
theorem nodup_lt : ∀ (n : Nat) (l : List Nat), l.Nodup → (∀ x ∈ l, x < n) → l.length ≤ n
  | 0, l, _, h => by
    cases l with
    | nil => simp
    | cons a l => exact absurd (h a List.mem_cons_self) (by omega)
  | n + 1, l, hl, h => by
    have h1 := nodup_lt n (l.erase n) (hl.erase n) fun x hx => by
      rw [hl.mem_erase_iff] at hx
      have := h x hx.2
      omega
    rw [List.length_erase] at h1
    split at h1 <;> omega
theorem waits_le {q : List HE} (hn : q.Nodup) (hg : ∀ e ∈ q, GoodE e) : q.length ≤ 707 := by
  have h := nodup_lt 707 (q.map fun e => (7 * e.depth + e.burr).toNat) ?_ ?_
  · rwa [List.length_map] at h
  · rw [List.Nodup, List.pairwise_map]
    refine List.Pairwise.imp_of_mem (fun {a b} ha hb hab he => hab ?_) hn
    obtain ⟨a1, a2, a3, a4⟩ := hg a ha
    obtain ⟨b1, b2, b3, b4⟩ := hg b hb
    cases a; cases b
    simp only at *
    rw [HE.mk.injEq]
    omega
  · intro x hx
    obtain ⟨e, he, rfl⟩ := List.mem_map.1 hx
    obtain ⟨a1, a2, a3, a4⟩ := hg e he
    omega
theorem addQ_nd {A B : List HE} {x : HE} (h : (A ++ B).Nodup) : (A ++ addQ A B x).Nodup := by
  unfold addQ
  split
  · exact h
  · rename_i hx
    rw [← List.append_assoc, List.nodup_append]
    refine ⟨h, by simp, fun y hy z hz e => ?_⟩
    simp only [List.mem_cons, List.not_mem_nil, or_false] at hz
    subst hz
    subst e
    exact hx hy
def heS (e : HE) : List SV := [.d (iD e.depth), .d (iD e.burr)]
def qS (q : List HE) : List SV := q.flatMap heS
@[simp] theorem heS_len (e : HE) : (heS e).length = 2 := rfl
theorem qS_len (q : List HE) : (qS q).length = q.length * 2 := by
  induction q with
  | nil => rfl
  | cons a q ih => rw [qS, List.flatMap_cons, List.length_append, ← qS, ih, heS_len, List.length_cons]; omega
theorem qS_app (q : List HE) (x : HE) : qS (q ++ [x]) = qS q ++ heS x := by simp [qS]
structure QIn (q : List HE) (cells : List SV) (off cp : Nat) : Prop where
  le : q.length ≤ cp
  room : off + cp * 2 ≤ cells.length
  eq : (cells.drop off).take (q.length * 2) = qS q
theorem QIn.head {a : HE} {q : List HE} {cells : List SV} {off cp : Nat} (h : QIn (a :: q) cells off cp) : (cells.drop off).take 2 = heS a := by
  have h1 := congrArg (List.take 2) h.eq
  rw [List.take_take] at h1
  rw [show min 2 ((a :: q).length * 2) = 2 by rw [List.length_cons]; omega] at h1
  rw [h1, qS, List.flatMap_cons]
  rfl
theorem QIn.tail {a : HE} {q : List HE} {cells : List SV} {off cp : Nat} (h : QIn (a :: q) cells off cp) : QIn q cells (if cp = 1 then off else off + 1 * 2) (cp - 1) := by
  have h1 := h.le
  have h2 := h.room
  rw [List.length_cons] at h1
  by_cases hc : cp = 1
  · have hq : q = [] := List.length_eq_zero_iff.1 (by omega)
    subst hq
    rw [if_pos hc]
    exact ⟨by simp, by omega, by simp [qS]⟩
  · rw [if_neg hc]
    refine ⟨by omega, by omega, ?_⟩
    have h3 := congrArg (List.drop 2) h.eq
    rw [List.drop_take, List.drop_drop] at h3
    rw [show (a :: q).length * 2 - 2 = q.length * 2 by rw [List.length_cons]; omega] at h3
    rw [Nat.one_mul, h3, qS, List.flatMap_cons]
    rfl
theorem QIn.room1 {q : List HE} {cells : List SV} {off cp : Nat} (h : QIn q cells off cp) (x : HE) (hc : q.length + 1 ≤ cp) : QIn (q ++ [x]) (splice cells (off + q.length * 2) (heS x)) off cp := by
  have h1 := h.room
  refine ⟨by rw [List.length_append]; exact hc, by simp [splice]; omega, ?_⟩
  rw [qS_app, ← h.eq, List.length_append, splice]
  simp only [List.length_cons, List.length_nil, Nat.zero_add, heS_len]
  rw [List.append_assoc, List.drop_append_of_le_length (by rw [List.length_take]; omega), List.drop_take, show off + q.length * 2 - off = q.length * 2 by omega]
  rw [List.take_append, List.take_of_length_le (by rw [List.length_take]; omega)]
  congr 1
  rw [List.length_take, List.length_drop, Nat.min_eq_left (by omega), show (q.length + 1) * 2 - q.length * 2 = 2 by omega]
  rfl
theorem QIn.grow {q : List HE} {cells : List SV} {off cp : Nat} (h : QIn q cells off cp) (x : HE) (cp' : Nat) (hc : q.length + 1 ≤ cp') (zs : List SV) (hz : zs.length = (cp' - (q.length + 1)) * 2) : QIn (q ++ [x]) ((cells.drop off).take (q.length * 2) ++ heS x ++ zs) 0 cp' := by
  have h1 := qS_len q
  rw [h.eq]
  refine ⟨by rw [List.length_append]; exact hc, by simp [h1, hz]; omega, ?_⟩
  rw [qS_app, List.length_append, List.drop_zero]
  simp only [List.length_cons, List.length_nil, Nat.zero_add]
  rw [List.take_append_of_le_length (by simp [h1]; omega), List.take_of_length_le (by simp [h1]; omega)]
def markS (M : Nat → Bool) : List SV := (List.range 6).map fun i => .d (bD (M i))
@[simp] theorem markS_len (M : Nat → Bool) : (markS M).length = 6 := by simp [markS]
theorem markS_put (M : Nat → Bool) {st : Nat} (h : st < 6) : List.take st (markS M) ++ SV.d (bD true) :: List.drop (st + 1) (markS M) = markS fun i => if i = st then true else M i := by
  apply List.ext_getElem?
  intro j
  have ht : (List.take st (markS M)).length = st := by simp; omega
  by_cases h1 : j < st
  · rw [List.getElem?_append_left (by omega), List.getElem?_take, if_pos h1]
    simp [markS, show j < 6 by omega, show ¬ j = st by omega]
  · rw [List.getElem?_append_right (by omega), ht]
    by_cases h2 : j = st
    · subst h2
      simp [markS, h]
    · obtain ⟨d, rfl⟩ : ∃ d, j = st + 1 + d := ⟨j - (st + 1), by omega⟩
      rw [show st + 1 + d - st = d + 1 by omega, List.getElem?_cons_succ, List.getElem?_drop]
      by_cases h3 : st + 1 + d < 6
      · simp [markS, h3, show ¬ st + 1 + d = st by omega]
      · simp [markS, h3]
def heK (e : HE) : List Int := [e.depth, e.burr]
theorem heK_inj {a b : HE} (h : heK a = heK b) : a = b := by
  cases a; cases b
  simp only [heK, List.cons.injEq, and_true] at h
  rw [HE.mk.injEq]
  exact h
def kvs (k : Nat) (A B : List HE) : List (List Int × SV) := (A.map fun e => (heK e, .d (iD (k : Int)))) ++ B.map fun e => (heK e, .d (iD ((k : Int) - 1)))
def EsOk (es : List (List Int × SV × Nat)) (k : Nat) (A B : List HE) : Prop := (es.map fun q => (q.1, q.2.1)) = kvs k A B
theorem EsOk.keys {es : List (List Int × SV × Nat)} {k : Nat} {A B : List HE} (h : EsOk es k A B) : es.map (·.1) = (A ++ B).map heK := by
  have := congrArg (List.map (·.1)) h
  simpa [kvs, Function.comp_def] using this
theorem EsOk.lens {es : List (List Int × SV × Nat)} {k : Nat} {A B : List HE} (h : EsOk es k A B) : es.all (fun q => q.1.length == 2) = true := by
  rw [List.all_eq_true]
  intro q hq
  have h1 : q.1 ∈ es.map (·.1) := List.mem_map.2 ⟨q, hq, rfl⟩
  rw [h.keys] at h1
  obtain ⟨e, _, he⟩ := List.mem_map.1 h1
  rw [← he]
  rfl
theorem EsOk.head {es : List (List Int × SV × Nat)} {k : Nat} {a : HE} {A B : List HE} (h : EsOk es k (a :: A) B) : ∃ b es', es = (heK a, .d (iD (k : Int)), b) :: es' ∧ EsOk es' k A B := by
  cases es with
  | nil => cases h
  | cons q es =>
    have h1 : (q.1, q.2.1) :: (es.map fun q => (q.1, q.2.1)) = (heK a, SV.d (iD (k : Int))) :: kvs k A B := h
    rw [List.cons.injEq, Prod.mk.injEq] at h1
    obtain ⟨⟨h2, h3⟩, h4⟩ := h1
    exact ⟨q.2.2, es, by rw [← h2, ← h3], h4⟩
theorem EsOk.add {es : List (List Int × SV × Nat)} {k : Nat} {A B : List HE} (h : EsOk es k A B) (x : HE) (b : Nat) : EsOk (es ++ [(heK x, .d (iD ((k : Int) - 1)), b)]) k A (B ++ [x]) := by
  unfold EsOk at h ⊢
  rw [List.map_append, h]
  simp [kvs]
theorem EsOk.new {es : List (List Int × SV × Nat)} {k : Nat} {B : List HE} (h : EsOk es (k + 1) [] B) : EsOk es k B [] := by
  unfold EsOk at h ⊢
  rw [h]
  simp [kvs, show ((k : Int) + 1 - 1) = k by omega]
theorem findK_none {l : List Int} {ks : List (List Int)} (h : l ∉ ks) : findK l ks 0 = none := by
  induction ks with
  | nil => rfl
  | cons k ks ih =>
    rw [List.mem_cons, not_or] at h
    rw [findK_cons, if_neg h.1, findK_off, ih h.2]
    rfl
theorem findK_mem {l : List Int} {ks : List (List Int)} (h : l ∈ ks) : ∃ j, findK l ks 0 = some j ∧ j < ks.length := by
  induction ks with
  | nil => cases h
  | cons k ks ih =>
    by_cases e : l = k
    · exact ⟨0, by rw [findK_cons, if_pos e], by simp⟩
    · obtain ⟨j, h1, h2⟩ := ih ((List.mem_cons.1 h).resolve_left e)
      exact ⟨j + 1, by rw [findK_cons, if_neg e, findK_off, h1]; rfl, by simp; omega⟩
theorem EsOk.waits {es : List (List Int × SV × Nat)} {k : Nat} {A B : List HE} (h : EsOk es k A B) (i : MapI) (x : HE) : ∃ v, lookV i es (heK x) true = .tup [v, .d (.val (.bool (decide (x ∈ A ++ B))))] := by
  by_cases hx : x ∈ A ++ B
  · obtain ⟨j, h1, h2⟩ := findK_mem (l := heK x) (ks := es.map (·.1)) (by rw [h.keys]; exact List.mem_map.2 ⟨x, hx, rfl⟩)
    rw [List.length_map] at h2
    refine ⟨es[j].2.1, ?_⟩
    simp [lookV, h1, h2, hx]
  · have h1 : findK (heK x) (es.map (·.1)) 0 = none := findK_none (by
      rw [h.keys]
      intro hm
      obtain ⟨y, hy, he⟩ := List.mem_map.1 hm
      exact hx (heK_inj he ▸ hy))
    exact ⟨i.zero, by simp [lookV, h1, hx]⟩
theorem EsOk.no {es : List (List Int × SV × Nat)} {k : Nat} {A B : List HE} (h : EsOk es k A B) {x : HE} (hx : x ∉ A ++ B) : findK (heK x) (es.map (·.1)) 0 = none := findK_none (by
  rw [h.keys]
  intro hm
  obtain ⟨y, hy, he⟩ := List.mem_map.1 hm
  exact hx (heK_inj he ▸ hy))
end Go.Proofs.Ytcmkkgdjhjpldaa.Eng

noncomputable section
namespace Go.Proofs.Ytcmkkgdjhjpldaa.Eng
open Go.RowKit
set_option maxRecDepth 100000
def MT : MTab := fun t => if t = 114 then some ⟨24, 3, .d (.val (.int .i64 0)), true, [.i64, .i64]⟩ else none
theorem eq_by_2 {P : Program} {t t0 t1 : TypeId} {f0 f1 : Field} {k0 k1 : IntKind} (w : World) {m n : List Int} (hm : m.length = 2) (hn : n.length = 2) (hs : P.stoodInHeld t = false) (hu : P.underlying t = some (.struct #[f0, f1])) (h0 : P.underlying t0 = some (.int k0)) (h1 : P.underlying t1 = some (.int k1))
    (hf : f0.type = t0 ∧ f0.offset = 0 ∧ f0.name ≠ "_" ∧ f1.type = t1 ∧ f1.offset = 1 ∧ f1.name ≠ "_") : (Op.equal t (aggInts [k0, k1] m) (aggInts [k0, k1] n)).run P w = .ok (decide (m = n)) w := by
  match m, n, hm, hn with
  | [a, c], [b, d], _, _ =>
    obtain ⟨rfl, o0, n0, rfl, o1, n1⟩ := hf
    unfold Op.equal aggInts
    rw [show Op.maxDepth = 9998 + 1 + 1 from rfl, run_equalIn_struct w _ t _ _ (by rw [fieldsOf_eq hu]; exact hu) hs, fieldsOf_eq hu]
    by_cases q : a = b
    · subst q
      by_cases q : c = d
      · subst q; simp [Op.eqFields, n0, o0, n1, o1, part_int h0, part_int h1, run_equalIn_int w _ _ k0 k0 _ _ h0, run_equalIn_int w _ _ k1 k1 _ _ h1]
      · simp [Op.eqFields, n0, o0, n1, o1, part_int h0, part_int h1, run_equalIn_int w _ _ k0 k0 _ _ h0, run_equalIn_int w _ _ k1 k1 _ _ h1, q]
    · simp [Op.eqFields, n0, o0, n1, o1, part_int h0, part_int h1, run_equalIn_int w _ _ k0 k0 _ _ h0, run_equalIn_int w _ _ k1 k1 _ _ h1, q]
theorem check_by_2 {P : Program} {t t0 t1 : TypeId} {f0 f1 : Field} {k0 k1 : IntKind} (b : Bool) (w : World) {n : List Int} (hn : n.length = 2) (hu : P.underlying t = some (.struct #[f0, f1])) (h0 : P.underlying t0 = some (.int k0)) (h1 : P.underlying t1 = some (.int k1))
    (hf : f0.type = t0 ∧ f0.offset = 0 ∧ f0.name ≠ "_" ∧ f1.type = t1 ∧ f1.offset = 1 ∧ f1.name ≠ "_") : (Instr.checkKey b 10000 t (aggInts [k0, k1] n)).run P w = .ok () w := by
  match n, hn with
  | [a, c], _ =>
    obtain ⟨rfl, o0, n0, rfl, o1, n1⟩ := hf
    have c0 : ∀ x, (Instr.checkKey b 9999 f0.type (.int k0 x)).run P w = .ok () w := fun x => by
      show (Instr.checkKey b (9998 + 1) f0.type (.int k0 x)).run P w = _
      rw [Instr.checkKey]
      simp only [Sem.run_bind, run_underlying h0, Result.andThen_ok]
      rfl
    have c1 : ∀ x, (Instr.checkKey b 9999 f1.type (.int k1 x)).run P w = .ok () w := fun x => by
      show (Instr.checkKey b (9998 + 1) f1.type (.int k1 x)).run P w = _
      rw [Instr.checkKey]
      simp only [Sem.run_bind, run_underlying h1, Result.andThen_ok]
      rfl
    show (Instr.checkKey b (9999 + 1) t (.agg #[.int k0 a, .int k1 c])).run P w = _
    rw [Instr.checkKey]
    simp only [Sem.run_bind, run_underlying hu, Result.andThen_ok]
    simp [n0, o0, n1, o1, part_int h0, part_int h1, c0, c1]
theorem mtOk : MTabOk Try.prog MT := fun t i h => by
  unfold MT at h
  split at h
  · rename_i e
    subst e
    cases h
    refine mapOk_ints (d := _) Try.underlying114 Try.underlying24 (fun x y => rfl) rfl (fun w a b ha hb => ?_) (fun b w ns hl => ?_) ⟨.int .i64 0, fun w => ?_, fun E w => rep_val rfl⟩
    · exact eq_by_2 w ha hb (by kernel_rfl) Try.underlying24 Try.underlying3 Try.underlying3 (by decide)
    · exact check_by_2 b w hl Try.underlying24 Try.underlying3 Try.underlying3 (by decide)
    · have h := info3
      rw [Option.map_eq_some_iff] at h
      obtain ⟨inf, h1, h2⟩ := h
      simp only [Prod.mk.injEq] at h2
      simp [zeroValue, typeInfo, h1, h2.1]
  · cases h
end Go.Proofs.Ytcmkkgdjhjpldaa.Eng

noncomputable section
namespace Go.Proofs.Ytcmkkgdjhjpldaa.Eng
open Go.RowKit
def endsL (l : List HS) (rs : List (Nat → Int)) (e : HE) : List Int := ((List.range 6).filter fun i => decide (i ∈ endsG l rs rs.length [e])).map fun i : Nat => (i : Int)
abbrev mpI : MapI := ⟨24, 3, .d (.val (.int .i64 0)), true, [.i64, .i64]⟩
theorem mpI_of : MT 114 = some mpI := rfl
def QM (m : Mem) (x : SV) (q : List HE) (lo hi v : Nat) : Prop := ∃ id off cp cells, lo ≤ id ∧ id < hi ∧ id ≠ v ∧ x = .sl id off q.length (some cp) ∧ m id = some (.box 24 cells false) ∧ QIn q cells off cp
structure EI (l : List HS) (rs : List (Nat → Int)) (e0 : HE) (c n : Nat) (m : Mem) (k : Nat) (A B : List HE) (M : Nat → Bool) (n1 : Nat) (s : St) : Prop where
  le : n + 1 + 1 + 1 + 1 + 1 ≤ n1
  s0 : s.slots 0 = .ptr c 0 0
  s5 : s.slots 5 = .ptr (n + 1 + 1) 0 0
  s6 : s.slots 6 = .ptr (n + 1 + 1 + 1 + 1) 0 0
  wv : ∃ v x, n + 1 + 1 + 1 + 1 + 1 ≤ v ∧ v < n1 ∧ s.slots 7 = .ptr v 0 0 ∧ s.mem v = some (.box 99 [x] false) ∧ QM s.mem x (A ++ B) (n + 1 + 1 + 1 + 1 + 1) n1 v
  mks : s.mem (n + 1 + 1) = some (.box 113 (markS M) false)
  mm : ∃ es ck, s.mem (n + 1 + 1 + 1) = some (mapB mpI es ck) ∧ EsOk es k A B
  mb : s.mem (n + 1 + 1 + 1 + 1) = some (.box 114 [.mp (n + 1 + 1 + 1)] false)
  low : ∀ j, j < n → s.mem j = m j
  hk : k ≤ rs.length
  b0 : k = 0 → B = []
  good : ∀ a ∈ A ++ B, GoodE a
  fin : ∀ st, (M st = true ∨ st ∈ restG l rs k A B) ↔ st ∈ endsG l rs rs.length [e0]
  nd : (A ++ B).Nodup
theorem listV_snoc (L : List Int) (x : Int) : listV (L ++ [x]) = .d (intL (L ++ [x])) := by cases L <;> rfl
theorem mem_far4 {m : Mem} {a b c d j : Nat} {x y z u : Option Blk} (h1 : ¬ j = a) (h2 : ¬ j = b) (h3 : ¬ j = c) (h4 : ¬ j = d) : setMem (setMem (setMem (setMem m a x) b y) c z) d u j = m j := by simp [h1, h2, h3, h4]
theorem mem_far3 {m : Mem} {b c d j : Nat} {y z u : Option Blk} (h2 : ¬ j = b) (h3 : ¬ j = c) (h4 : ¬ j = d) : setMem (setMem (setMem m b y) c z) d u j = m j := by simp [h2, h3, h4]
def foundQ (l : List HS) (rs : List (Nat → Int)) (k : Nat) (a : HE) (A B : List HE) (i : Nat) : List HE := ((onwX l rs a k).take i).foldl (fun B p => addQ A B p.2) B
def foundM (l : List HS) (rs : List (Nat → Int)) (k : Nat) (a : HE) (M : Nat → Bool) (i : Nat) : Nat → Bool := fun st => M st || (decide (k = 1) && decide (st ∈ ((onwX l rs a k).take i).map (·.1)))
theorem onwX_good {l : List HS} (hl : l.all okS = true) (hn6 : l.length ≤ 6) {rs : List (Nat → Int)} {k : Nat} {a : HE} (ga : GoodE a) {i st : Nat} {x0 : HE} (h : (onwX l rs a k)[i]? = some (st, x0)) : st < 6 ∧ GoodE x0 := by
  cases k with
  | zero => cases h
  | succ k =>
    obtain ⟨sx, hsx, hX, rfl⟩ := strks_of (show (strks l a (rs.getD k fun _ => 0))[i]? = some (st, x0) from h)
    simp only [strX, Bool.and_eq_true] at hX
    exact ⟨by have := (List.getElem?_eq_some_iff.1 hsx).1; omega, GoodE.str (goodS hl hsx) ga hX.1⟩
theorem foundM_next {l : List HS} {rs : List (Nat → Int)} {k : Nat} {a : HE} (M : Nat → Bool) {i st : Nat} {x0 : HE} (h : (onwX l rs a k)[i]? = some (st, x0)) : foundM l rs k a M (i + 1) = if k = 1 then (fun t => if t = st then true else foundM l rs k a M i t) else foundM l rs k a M i := by
  have ht : (onwX l rs a k).take (i + 1) = (onwX l rs a k).take i ++ [(st, x0)] := by rw [List.take_add_one, h]; rfl
  by_cases hk : k = 1
  · rw [if_pos hk]
    funext t
    rw [foundM, ht]
    by_cases e : t = st
    · subst e; simp [hk]
    · simp [e, foundM, hk]
  · rw [if_neg hk]
    funext t
    simp [foundM, hk]
theorem foundQ_next {l : List HS} {rs : List (Nat → Int)} {k : Nat} {a : HE} (A B : List HE) {i st : Nat} {x0 : HE} (h : (onwX l rs a k)[i]? = some (st, x0)) : foundQ l rs k a A B (i + 1) = addQ A (foundQ l rs k a A B i) x0 := by
  have ht : (onwX l rs a k).take (i + 1) = (onwX l rs a k).take i ++ [(st, x0)] := by rw [List.take_add_one, h]; rfl
  rw [foundQ, ht, List.foldl_append]
  rfl
structure II (l : List HS) (rs : List (Nat → Int)) (c n : Nat) (m : Mem) (k : Nat) (a : HE) (A B : List HE) (M : Nat → Bool) (v n1 nb : Nat) (i nn : Nat) (O : Nat → Prop) (mm : Mem) : Prop where
  lt : n + 1 + 1 + 1 + 1 + 1 ≤ n1 ∧ n1 + 15 = nb ∧ n + 1 + 1 + 1 + 1 + 1 ≤ v ∧ v < n1
  le : nb + 6 ≤ nn
  own : ∀ j, O j → nb + 6 ≤ j
  low : ∀ j, j < n → mm j = m j
  o1 : mm nb = some (.box 73 [.ptr c 0 0] false)
  o2 : mm (nb + 1) = some (.box 24 [.d (iD a.depth), .d (iD a.burr)] false)
  o3 : mm (nb + 1 + 1) = some (.box 3 [.d (iD (k : Int))] false)
  mks : mm (n + 1 + 1) = some (.box 113 (markS (foundM l rs k a M i)) false)
  mp : ∃ es ck, mm (n + 1 + 1 + 1) = some (mapB mpI es ck) ∧ EsOk es k A (foundQ l rs k a A B i)
  mb : mm (n + 1 + 1 + 1 + 1) = some (.box 114 [.mp (n + 1 + 1 + 1)] false)
  left : mm (n1 + 1 + 1 + 1 + 1 + 1 + 1 + 1 + 1) = some (.box 3 [.d (iD (k : Int))] false)
  wv : ∃ id off cp cells, n + 1 + 1 + 1 + 1 + 1 ≤ id ∧ id < nn ∧ ¬ O id ∧ id ≠ v ∧ (id < n1 ∨ nb + 6 ≤ id) ∧ mm v = some (.box 99 [.sl id off (a :: A ++ foundQ l rs k a A B i).length (some cp)] false) ∧ mm id = some (.box 24 cells false) ∧ QIn (a :: A ++ foundQ l rs k a A B i) cells off cp
  good : ∀ b ∈ foundQ l rs k a A B i, GoodE b
  nd : (A ++ foundQ l rs k a A B i).Nodup
theorem II.stable {l : List HS} {rs : List (Nat → Int)} {c n : Nat} {m : Mem} {k : Nat} {a : HE} {A B : List HE} {M : Nat → Bool} {v n1 nb : Nat} (i : Nat) : StableN (II l rs c n m k a A B M v n1 nb i) := by
  rintro nn O mm n2 O2 m' h1 h2 h3 ⟨lt, a1, a2, a3, a4, a5, a6, a7, ⟨es, ck, a8, a9⟩, b1, b2, ⟨id, off, cp, cells, c1, c2, c3, c4, c5, c6, c7, c8⟩, d1, d9⟩
  have hO : ∀ j, O2 j → nb + 6 ≤ j := fun j hj => (h2 j hj).elim (a2 j) fun h => by omega
  have hl : ∀ j, j < nb + 6 → m' j = mm j := fun j hj => h3 j (by omega) fun h => by have := hO j h; omega
  have hid : ¬ O2 id := fun h => (h2 id h).elim c3 fun h => by omega
  exact ⟨lt, by omega, hO, fun j hj => (hl j (by omega)).trans (a3 j hj), (hl _ (by omega)).trans a4, (hl _ (by omega)).trans a5, (hl _ (by omega)).trans a6, (hl _ (by omega)).trans a7, ⟨es, ck, (hl _ (by omega)).trans a8, a9⟩, (hl _ (by omega)).trans b1, (hl _ (by omega)).trans b2, ⟨id, off, cp, cells, c1, by omega, hid, c4, c5, (hl _ (by omega)).trans c6, (h3 id c2 hid).trans c7, c8⟩, d1, d9⟩
theorem EI.cases {l : List HS} {rs : List (Nat → Int)} {e0 : HE} {c n : Nat} {m : Mem} {k : Nat} {A B : List HE} {M : Nat → Bool} {n1 : Nat} {s : St} (h : EI l rs e0 c n m k A B M n1 s) : (A = [] ∧ B = []) ∨ ∃ k' a A' B', EI l rs e0 c n m k' (a :: A') B' M n1 s ∧ muG l rs k' (a :: A') B' = muG l rs k A B := by
  rcases A with _ | ⟨a, A⟩
  · rcases B with _ | ⟨b, B⟩
    · exact .inl ⟨rfl, rfl⟩
    · right
      cases k with
      | zero => exact absurd (h.b0 rfl) (by simp)
      | succ k =>
        refine ⟨k, b, B, [], ⟨h.le, h.s0, h.s5, h.s6, ?_, h.mks, ?_, h.mb, h.low, by have := h.hk; omega, fun _ => rfl, ?_, fun st => ?_, by simpa using h.nd⟩, (muG_new l rs k (b :: B)).symm⟩
        · simpa using h.wv
        · obtain ⟨es, ck, h1, h2⟩ := h.mm
          exact ⟨es, ck, h1, h2.new⟩
        · simpa using h.good
        · rw [← h.fin st, restG_new]
  · exact .inr ⟨k, a, A, B, h, rfl⟩
set_option maxRecDepth 100000 in
set_option maxHeartbeats 8000000 in
theorem ends_w (l : List HS) (hl : l.all okS = true) (hn6 : l.length ≤ 6) (rs : List (Nat → Int)) (hrs : rs.length ≤ 800) (e0 : HE) (ge0 : GoodE e0) (c lo n : Nat) (m : Mem) (hc : CourseAt l rs m c lo n) :
    CWp Try.prog 72 [.ptr c 0 0, .agg [.d (iD e0.depth), .d (iD e0.burr)]] n m fun y _ m' => y = .d (intL (endsL l rs e0)) ∧ ∀ j, j < n → m' j = m j := by
  obtain ⟨x, hcl, hch, hcc, hcx⟩ := id hc
  have hlx : lenSV x = some rs.length := by
    rcases hcx with ⟨rfl, rfl⟩ | ⟨id, -, -, rfl, -⟩
    · rfl
    · rfl
  refine cwpK tabOk Try.func72 rfl rfl (show 2 ≤ _ by decide) rfl fun _ => ?_; simp only [Try.ntmps72]
  refine AWi.seqK fun _ => ?_
  refine AWi.region tabOk ?_
  simp [-getElem?_pos, z0, z1, z2]
  with_reducible refine KI.go ?_
  repeat (first | (with_reducible first | refine AWi.seqK fun _ => ?_ | refine AWi.blockK fun _ => ?_ | refine KI.go ?_) | ((first | refine AWi.region tabOk ?_ | refine AWi.condK fun _ _ => ?_); simp [-getElem?_pos, z0, z1, z2, z0]) | ((first | refine AWi.ret ?_ | refine AWi.skip ?_ | refine AWi.exit ?_); try simp only [thenP]) | (with_reducible refine BB.go ?_; simp only [blockP, thenP, reduceIte]))
  have a0 : c < n + 1 + 1 + 1 := by omega
  have k1 : ¬ c = n + 1 + 1 + 1 := by omega
  have k2 : ¬ c = n + 1 + 1 := by omega
  have k3 : ¬ c = n := by omega
  refine AWi.mono (Q := fun ex n2 s2 => ex = .normal ∧ n2 = n + 1 + 1 + 1 + 1 + 1 ∧ s2.slots 0 = .ptr c 0 0 ∧ s2.slots 3 = .ptr n 0 0 ∧ s2.slots 4 = .nilS ∧ s2.slots 5 = .ptr (n + 1 + 1) 0 0 ∧ s2.slots 6 = .ptr (n + 1 + 1 + 1 + 1) 0 0 ∧ s2.mem n = some (.box 24 [.d (iD e0.depth), .d (iD e0.burr)] false) ∧ s2.mem (n + 1 + 1) = some (.box 113 (markS fun _ => false) false) ∧ s2.mem (n + 1 + 1 + 1) = some (mapB mpI [(heK e0, .d (iD (rs.length : Int)), 0)] 1) ∧ s2.mem (n + 1 + 1 + 1 + 1) = some (.box 114 [.mp (n + 1 + 1 + 1)] false) ∧ ∀ j, j < n → s2.mem j = m j) ?_ ?_
  · rcases hcx with ⟨rfl, rfl⟩ | ⟨id, b1, b2, rfl, b3⟩
    all_goals
      refine AWi.drawsV mixedH (by kernel_rfl) ?_
      refine ExecV.makeMap mpI rfl rfl (by simp) ?_
      iterate 6 (with_reducible refine ExecV.auto tabOk ?_; simp [-getElem?_pos, z0, z1, z2, kindV, isPure, hcc, a0, k1, k2, k3]; try (refine And.intro (OkV_old (by simp; try omega) (by omega) (by simp [AllAcc])) ?_))
      refine ExecV.insert mtOk (.inr rfl) (id := n + 1 + 1 + 1) (clock := 0) (es := []) (k := heK e0) (kv := .agg [.d (iD e0.depth), .d (iD e0.burr)]) rfl mpI_of (by simp) (by simp) (by simp) rfl rfl rfl (by simp; rfl) ?_ ?_
      · (refine OkV_last (by simp; try omega) ?_; repeat' (first | exact trivial | refine And.intro (show ordB _ _ _ = true from by kernel_rfl) ?_))
      repeat (with_reducible refine ExecV.auto tabOk ?_; simp [-getElem?_pos, z0, z1, z2, kindV, isPure, hcc, a0, k1, k2, k3]; try (refine And.intro (OkV_old (by simp; try omega) (by omega) (by simp [AllAcc])) ?_))
      refine And.intro ?_ ?_
      · (refine OkV_last (by simp; try omega) ?_; repeat' (first | exact trivial | refine And.intro (show ordB _ _ _ = true from by kernel_rfl) ?_))
      unfold ExecV
      simp [markS, List.range_succ]
      intro j hj
      simp [show ¬ j = n by omega, show ¬ j = n + 1 + 1 by omega, show ¬ j = n + 1 + 1 + 1 by omega, show ¬ j = n + 1 + 1 + 1 + 1 by omega]
  rintro ex n2 s2 ⟨rfl, rfl, t0, t3, t4, t5, t6, me, mk, mm, mb, low⟩
  simp only [thenP]
  with_reducible refine KI.go ?_
  repeat (with_reducible refine AWi.seqK fun _ => ?_)
  refine AWi.regionS ?_
  refine ExecS.plain tabOk (out := { res := .agg [.d (iD e0.depth), .d (iD e0.burr)] }) rfl rfl (by simp [-getElem?_pos, z0, z1, z2, t3, me]) ?_
  refine ExecS.lit tabOk (l := [(0, .agg [.d (iD e0.depth), .d (iD e0.burr)])]) (cells := heS e0) rfl rfl (TB99) rfl (TB24) (by simp [-getElem?_pos, z0, z1, z2]) (by rfl) (by simp) ?_
  refine ExecS.plain tabOk (out := { res := .ptr (n + 1 + 1 + 1 + 1 + 1 + 1 + 1) 0 0, nw := some (.box 99 [.nilS] false) }) rfl rfl (by simp [-getElem?_pos, z0, z1, z2]) ?_
  refine ExecS.plain tabOk (out := { res := .und, wr := some (n + 1 + 1 + 1 + 1 + 1 + 1 + 1, some (.box 99 [.sl (n + 1 + 1 + 1 + 1 + 1 + 1) 0 1 (some 1)] false)) }) rfl rfl (by simp [-getElem?_pos, z0, z1, z2, putS]) ?_
  simp [putS, ExecS]
  try simp only [thenP]
  with_reducible refine KI.go ?_
  refine AWi.blockK fun _ => ?_
  refine AWi.loopK (ι := Nat × List HE × List HE × (Nat → Bool)) (fun p n1 s => EI l rs e0 c n m p.1 p.2.1 p.2.2.1 p.2.2.2 n1 s) (fun p => muG l rs p.1 p.2.1 p.2.2.1) (rs.length, [e0], [], fun _ => false) ?_ ?_
  · refine ⟨by omega, by simp [t0], by simp [t5], by simp [t6], ⟨n + 1 + 1 + 1 + 1 + 1 + 1 + 1, .sl (n + 1 + 1 + 1 + 1 + 1 + 1) 0 1 (some 1), by omega, by omega, by simp, by simp, ⟨n + 1 + 1 + 1 + 1 + 1 + 1, 0, 1, heS e0, by omega, by omega, by omega, rfl, by simp, ⟨by simp, by simp, rfl⟩⟩⟩, by simp [mk], ⟨[(heK e0, .d (iD (rs.length : Int)), 0)], 1, by simp [mm], rfl⟩, by simp [mb], fun j hj => ?_, Nat.le_refl _, fun _ => rfl, fun a ha => ?_, fun st => ?_, by simp⟩
    · simp [show ¬ j = n + 1 + 1 + 1 + 1 + 1 + 1 + 1 by omega, show ¬ j = n + 1 + 1 + 1 + 1 + 1 + 1 by omega, low j hj]
    · simp at ha; subst ha; exact ge0
    · cases rs.length with
      | zero => simp [restG, endsG]
      | succ k => simp [restG, endsG]
  rintro ⟨k0, A0, B0, M⟩ n1 s hE0 kk
  simp only at hE0
  rcases EI.cases hE0 with ⟨rfl, rfl⟩ | ⟨k, a, A, B, hE, hmu⟩
  · obtain ⟨hle, s0, s5, s6, ⟨v, x1, v1, v2, s7, v4, ⟨id, off, cp, cells, i1, i2, i3, rfl, i4, hQ⟩⟩, mk, -, mb, low, hk, hb0, hgood, hfin, hnd⟩ := hE0
    repeat (with_reducible refine AWi.seqK fun _ => ?_)
    refine AWi.regionS ?_
    refine ExecS.plain tabOk (out := { res := .sl id off 0 (some cp) }) rfl rfl (by simp [-getElem?_pos, z0, z1, z2, s7, v4]) ?_
    refine ExecS.len tabOk (id := id) (off := off) (k := 0) (c := some cp) rfl rfl rfl rfl rfl (TB99) rfl (by simp [-getElem?_pos, z0, z1, z2, putS]) ?_
    refine ExecS.plain tabOk (out := { res := .d (bD false) }) rfl rfl (by simp [-getElem?_pos, z0, z1, z2, putS]) ?_
    simp [putS, ExecS]
    try simp only [thenP]
    have htk : List.take 6 (markS M) = markS M := List.take_of_length_le (by simp)
    have hmax : ∀ i : Nat, i ≤ 6 → (((List.range i).filter M).map fun i : Nat => (i : Int)).length ≤ 6 := fun i hi => by
      rw [List.length_map]
      exact Nat.le_trans (List.length_filter_le _ _) (by simpa using hi)
    have hend : ((List.range 6).filter M).map (fun i : Nat => (i : Int)) = endsL l rs e0 := by
      rw [endsL]
      congr 1
      refine List.filter_congr fun st _ => ?_
      have h := hfin st
      rw [restG_nil] at h
      rw [Bool.eq_iff_iff, decide_eq_true_iff, ← h]
      simp
    repeat (first | (with_reducible first | refine AWi.seqK fun _ => ?_ | refine AWi.blockK fun _ => ?_ | refine KI.go ?_) | ((first | refine AWi.region tabOk ?_ | refine AWi.condK fun _ _ => ?_); simp [-getElem?_pos, z0, z1, z2, s5, mk, htk]) | ((first | refine AWi.ret ?_ | refine AWi.skip ?_ | refine AWi.exit ?_); try simp only [thenP]) | (with_reducible refine BB.go ?_; simp only [blockP, thenP, reduceIte]))
    refine AWi.loopK (ι := { i : Nat // i ≤ 6 }) (fun i n2 s2 => s2.slots 14 = listV (((List.range i.1).filter M).map fun i : Nat => (i : Int)) ∧ s2.slots 67 = .agg (markS M) ∧ s2.slots 68 = .d (iD i.1) ∧ s2.mem = s.mem) (fun i => 6 - i.1) ⟨0, by omega⟩ ?_ ?_
    · simp [listV]
    rintro ⟨i, hi⟩ n2 s2 ⟨t14, t67, t68, tm⟩ kk2
    simp only at t14 t68
    have hL := hmax i hi
    by_cases hlt : i < 6
    · have hi5 : i ≤ 5 := by omega
      have hii : (i : Int) < 6 := by omega
      have hget : List.take 1 (List.drop i (markS M)) = [.d (bD (M i))] := by
        apply List.ext_getElem?
        intro j
        rw [List.getElem?_take, List.getElem?_drop]
        by_cases hj : j < 1
        · obtain rfl : j = 0 := by omega
          simp [markS, hlt]
        · rw [if_neg hj, List.getElem?_eq_none (by simp; omega)]
      have w1 : IntKind.i64.wrap ((i : Int) + 1) = (i : Int) + 1 := wrap64_in (by omega)
      repeat (first | (with_reducible first | refine AWi.seqK fun _ => ?_ | refine AWi.blockK fun _ => ?_ | refine KI.go ?_) | ((first | refine AWi.region tabOk ?_ | refine AWi.condK fun _ _ => ?_); simp [-getElem?_pos, z0, z1, z2, t14, t67, t68, hii, hi5, hget]) | ((first | refine AWi.ret ?_ | refine AWi.skip ?_ | refine AWi.exit ?_); try simp only [thenP]) | (with_reducible refine BB.go ?_; simp only [blockP, thenP, reduceIte]))
      have hnext : ((List.range (i + 1)).filter M).map (fun i : Nat => (i : Int)) = if M i = true then ((List.range i).filter M).map (fun i : Nat => (i : Int)) ++ [(i : Int)] else ((List.range i).filter M).map fun i : Nat => (i : Int) := by
        rw [List.range_succ, List.filter_append, List.map_append]
        by_cases h : M i = true <;> simp [h]
      by_cases hM : M i = true
      · rw [if_pos hM] at hnext
        rw [if_pos hM]
        repeat (first | (with_reducible first | refine AWi.seqK fun _ => ?_ | refine AWi.blockK fun _ => ?_ | refine KI.go ?_) | ((first | refine AWi.region tabOk ?_ | refine AWi.condK fun _ _ => ?_); simp [-getElem?_pos, z0, z1, z2, t14]) | ((first | refine AWi.ret ?_ | refine AWi.skip ?_ | refine AWi.exit ?_); try simp only [thenP]) | (with_reducible refine BB.go ?_; simp only [blockP, thenP, reduceIte]))
        refine ExecI.callC ((RCall.ofA4 (grown_c (((List.range i).filter M).map fun i : Nat => (i : Int)) (i : Int) (by omega)) (svs := [listV (((List.range i).filter M).map fun i : Nat => (i : Int)), .d (iD (i : Int))]) (by rw [mapO, listV_toD]; rfl) _).cwp (fun _ _ h => h) (x := .d (intL (((List.range i).filter M).map (fun i : Nat => (i : Int)) ++ [(i : Int)]))) rfl _) rfl (by simp [calleeS, evList, iD]) ?_
        rintro y n9 m9 ⟨rfl, rfl, rfl⟩
        simp [-getElem?_pos, z0, z1, z2]
        repeat (first | (with_reducible first | refine AWi.seqK fun _ => ?_ | refine AWi.blockK fun _ => ?_ | refine KI.go ?_) | ((first | refine AWi.region tabOk ?_ | refine AWi.condK fun _ _ => ?_); simp [-getElem?_pos, z0, z1, z2, t68, w1]) | ((first | refine AWi.ret ?_ | refine AWi.skip ?_ | refine AWi.exit ?_); try simp only [thenP]) | (with_reducible refine BB.go ?_; simp only [blockP, thenP, reduceIte]))
        refine LI.go ⟨i + 1, hlt⟩ ⟨?_, by simp [t67], by simp, by simp [tm]⟩ (by simp; omega)
        simp only [hnext]
        rw [listV_snoc]
        simp
      · rw [if_neg hM] at hnext
        rw [if_neg hM]
        repeat (first | (with_reducible first | refine AWi.seqK fun _ => ?_ | refine AWi.blockK fun _ => ?_ | refine KI.go ?_) | ((first | refine AWi.region tabOk ?_ | refine AWi.condK fun _ _ => ?_); simp [-getElem?_pos, z0, z1, z2, t68, w1]) | ((first | refine AWi.ret ?_ | refine AWi.skip ?_ | refine AWi.exit ?_); try simp only [thenP]) | (with_reducible refine BB.go ?_; simp only [blockP, thenP, reduceIte]))
        refine LI.go ⟨i + 1, hlt⟩ ⟨?_, by simp [t67], by simp, by simp [tm]⟩ (by simp; omega)
        simp only [hnext]
        simp [t14]
    · obtain rfl : i = 6 := by omega
      repeat (first | (with_reducible first | refine AWi.seqK fun _ => ?_ | refine AWi.blockK fun _ => ?_ | refine KI.go ?_) | ((first | refine AWi.region tabOk ?_ | refine AWi.condK fun _ _ => ?_); simp [-getElem?_pos, z0, z1, z2, t14, t67, t68]) | ((first | refine AWi.ret ?_ | refine AWi.skip ?_ | refine AWi.exit ?_); try simp only [thenP]) | (with_reducible refine BB.go ?_; simp only [blockP, thenP, reduceIte]))
      refine ExecI.callC ((RCall.ofA4 (taken_c (((List.range 6).filter M).map fun i : Nat => (i : Int)) (by omega)) (svs := [listV (((List.range 6).filter M).map fun i : Nat => (i : Int))]) (by rw [mapO, listV_toD]; rfl) _).cwp (fun _ _ h => h) (x := .d (intL (((List.range 6).filter M).map fun i : Nat => (i : Int)))) rfl _) rfl (by simp [calleeS, evList]) ?_
      rintro y n9 m9 ⟨rfl, rfl, rfl⟩
      simp [-getElem?_pos, z0, z1, z2]
      repeat (first | (with_reducible first | refine AWi.seqK fun _ => ?_ | refine AWi.blockK fun _ => ?_ | refine KI.go ?_) | ((first | refine AWi.region tabOk ?_ | refine AWi.condK fun _ _ => ?_); simp [-getElem?_pos, z0, z1, z2, z0]) | ((first | refine AWi.ret ?_ | refine AWi.skip ?_ | refine AWi.exit ?_); try simp only [thenP]) | (with_reducible refine BB.go ?_; simp only [blockP, thenP, reduceIte]))
      refine RI.ret rfl ⟨?_, fun j hj => by simp [tm, low j hj]⟩
      rw [hend]
      rfl
  clear hE0
  obtain ⟨hle, s0, s5, s6, ⟨v, x1, v1, v2, s7, v4, ⟨id, off, cp, cells, i1, i2, i3, rfl, i4, hQ⟩⟩, mk, ⟨es, ck, mm, hes⟩, mb, low, hk, hb0, hgood, hfin, hnd⟩ := hE
  obtain ⟨b0, es, rfl, hes'⟩ := hes.head
  obtain ⟨N, hN⟩ : ∃ N, N = (a :: A ++ B).length := ⟨_, rfl⟩
  have hN1 : 0 < N := by rw [hN]; simp
  have hNi : (0 : Int) < (N : Int) := by omega
  have hQle := hQ.le
  have hroom := hQ.room
  have hhd := hQ.head
  rw [← hN] at v4 hQle
  have hld : off + 2 ≤ cells.length := by omega
  have hlk : lookV mpI ((heK a, SV.d (iD (k : Int)), b0) :: es) (heK a) false = .d (iD (k : Int)) := by simp [lookV, findK_cons]
  have v5 : ¬ v = n1 + 1 + 1 + 1 + 1 := by omega
  have m5 : ¬ n + 1 + 1 + 1 = n1 + 1 + 1 + 1 + 1 := by omega
  have m6 : ¬ n + 1 + 1 + 1 + 1 = n1 + 1 + 1 + 1 + 1 := by omega
  have m7 : ¬ n = n1 := by omega
  have m8 : ∀ d : Nat, ¬ n = n1 + d := fun d => by omega
  have m9 : ∀ d : Nat, ¬ n1 + d = n := fun d => by omega
  have m10 : ¬ n1 = n := by omega
  repeat (with_reducible refine AWi.seqK fun _ => ?_)
  refine AWi.regionS ?_
  refine ExecS.plain tabOk (out := { res := .sl id off N (some cp) }) rfl rfl (by simp [-getElem?_pos, z0, z1, z2, s7, v4]) ?_
  refine ExecS.len tabOk (id := id) (off := off) (k := N) (c := some cp) rfl rfl rfl rfl rfl (TB99) rfl (by simp [-getElem?_pos, z0, z1, z2, putS]) ?_
  refine ExecS.plain tabOk (out := { res := .d (bD true) }) rfl rfl (by simp [-getElem?_pos, z0, z1, z2, putS, hN1]) ?_
  simp [putS, ExecS]
  try simp only [thenP]
  repeat (first | (with_reducible first | refine AWi.seqK fun _ => ?_ | refine AWi.blockK fun _ => ?_ | refine KI.go ?_) | (refine AWi.condK fun _ _ => ?_; simp [-getElem?_pos, z0, z1, z2, z0]) | ((first | refine AWi.ret ?_ | refine AWi.skip ?_ | refine AWi.exit ?_); try simp only [thenP]) | (with_reducible refine BB.go ?_; simp only [blockP, thenP, reduceIte]))
  refine AWi.regionS ?_
  refine ExecS.plain tabOk (out := { res := .sl id off N (some cp) }) rfl rfl (by simp [-getElem?_pos, z0, z1, z2, s7, v4]) ?_
  refine ExecS.index tabOk (kd := .i64) (id := id) (off := off) (k := N) (c := some cp) (j := 0) rfl rfl (TB99) rfl (TB24) (by simp [-getElem?_pos, z0, z1, z2, putS]) (by simp [-getElem?_pos, z0, z1, z2]) hN1 ?_
  refine ExecS.plain tabOk (out := { res := .agg (heS a) }) rfl rfl (by simp [-getElem?_pos, z0, z1, z2, putS, i4, hld, hhd]) ?_
  refine ExecS.plain tabOk (out := { res := .ptr (n1 + 1 + 1 + 1 + 1) 0 0, nw := some (.box 24 [.d (iD 0), .d (iD 0)] false) }) rfl rfl (by simp [-getElem?_pos, z0, z1, z2]) ?_
  refine ExecS.plain tabOk (out := { res := .und, wr := some (n1 + 1 + 1 + 1 + 1, some (.box 24 (heS a) false)) }) rfl rfl (by simp [-getElem?_pos, z0, z1, z2, putS, heS]) ?_
  simp [putS, ExecS]
  try simp only [thenP]
  repeat (first | (with_reducible first | refine AWi.seqK fun _ => ?_ | refine AWi.blockK fun _ => ?_ | refine KI.go ?_) | (refine AWi.condK fun _ _ => ?_; simp [-getElem?_pos, z0, z1, z2, z0]) | ((first | refine AWi.ret ?_ | refine AWi.skip ?_ | refine AWi.exit ?_); try simp only [thenP]) | (with_reducible refine BB.go ?_; simp only [blockP, thenP, reduceIte]))
  refine AWi.regionS ?_
  refine ExecS.plain tabOk (out := { res := .mp (n + 1 + 1 + 1) }) rfl rfl (by simp [-getElem?_pos, z0, z1, z2, s6, mb, m7, m8]) ?_
  refine ExecS.plain tabOk (out := { res := .agg (heS a) }) rfl rfl (by simp [-getElem?_pos, z0, z1, z2, putS, heS]) ?_
  refine ExecS.lookup mtOk (id := n + 1 + 1 + 1) (clock := ck) (es := (heK a, SV.d (iD (k : Int)), b0) :: es) (kv := .agg (heS a)) (l := heK a) rfl rfl mpI_of (by simp [-getElem?_pos, z0, z1, z2, putS]) (by simp [-getElem?_pos, z0, z1, z2, putS, mm, m7, m8, m5]) (by simp [-getElem?_pos, z0, z1, z2, putS]) rfl hes.lens ?_
  rw [hlk]
  refine ExecS.plain tabOk (out := { res := .ptr (n1 + 1 + 1 + 1 + 1 + 1 + 1 + 1 + 1) 0 0, nw := some (.box 3 [.d (iD 0)] false) }) rfl rfl (by simp [-getElem?_pos, z0, z1, z2]) ?_
  refine ExecS.plain tabOk (out := { res := .und, wr := some (n1 + 1 + 1 + 1 + 1 + 1 + 1 + 1 + 1, some (.box 3 [.d (iD (k : Int))] false)) }) rfl rfl (by simp [-getElem?_pos, z0, z1, z2, putS]) ?_
  simp [putS, ExecS]
  try simp only [thenP]
  repeat (first | (with_reducible first | refine AWi.seqK fun _ => ?_ | refine AWi.blockK fun _ => ?_ | refine KI.go ?_) | (refine AWi.condK fun _ _ => ?_; simp [-getElem?_pos, z0, z1, z2, z0]) | ((first | refine AWi.ret ?_ | refine AWi.skip ?_ | refine AWi.exit ?_); try simp only [thenP]) | (with_reducible refine BB.go ?_; simp only [blockP, thenP, reduceIte]))
  refine AWi.mono (Q := fun ex n2 s2 => ex = .normal ∧ n2 = n1 + 1 + 1 + 1 + 1 + 1 + 1 + 1 + 1 + 1 + 1 + 1 + 1 ∧ s2.slots 0 = .ptr c 0 0 ∧ s2.slots 5 = .ptr (n + 1 + 1) 0 0 ∧ s2.slots 6 = .ptr (n + 1 + 1 + 1 + 1) 0 0 ∧ s2.slots 7 = .ptr v 0 0 ∧ s2.slots 8 = .ptr (n1 + 1 + 1 + 1 + 1) 0 0 ∧ s2.slots 9 = .ptr (n1 + 1 + 1 + 1 + 1 + 1 + 1 + 1 + 1) 0 0 ∧
    s2.mem (n1 + 1 + 1 + 1 + 1) = some (.box 24 [.d (iD a.depth), .d (iD a.burr)] false) ∧ s2.mem (n1 + 1 + 1 + 1 + 1 + 1 + 1 + 1 + 1) = some (.box 3 [.d (iD (k : Int))] false) ∧ s2.mem (n + 1 + 1 + 1) = some (mapB mpI es ck) ∧ ∀ j, j < n1 → ¬ j = n + 1 + 1 + 1 → s2.mem j = s.mem j) ?_ ?_
  · refine AWi.regionS ?_
    refine ExecS.plain tabOk (out := { res := .mp (n + 1 + 1 + 1) }) rfl rfl (by simp [-getElem?_pos, z0, z1, z2, s6, mb, m7, m8]) ?_
    refine ExecS.plain tabOk (out := { res := .agg (heS a) }) rfl rfl (by simp [-getElem?_pos, z0, z1, z2, putS, heS]) ?_
    refine ExecS.delete mtOk (id := n + 1 + 1 + 1) (clock := ck) (es := (heK a, SV.d (iD (k : Int)), b0) :: es) (kv := .agg (heS a)) (l := heK a) (j := 0) rfl rfl rfl rfl rfl mpI_of (by simp [-getElem?_pos, z0, z1, z2, putS]) (by simp [-getElem?_pos, z0, z1, z2, putS, mm, m5, m7, m8]) (by simp [-getElem?_pos, z0, z1, z2, putS]) rfl hes.lens (by simp [findK_cons]) ?_
    simp [putS, ExecS, s0, s5, s6, s7, m9, m10, heS]
    refine ⟨by omega, fun j hj hne => ?_⟩
    simp [hne, show ¬ j = n1 + 1 + 1 + 1 + 1 by omega, show ¬ j = n1 + 1 + 1 + 1 + 1 + 1 + 1 + 1 + 1 by omega]
  rintro ex n2 s2 ⟨rfl, rfl, t0, t5, t6, t7, t8, t9, me, mk9, mm2, low2⟩
  try simp only [thenP]
  repeat (first | (with_reducible first | refine AWi.seqK fun _ => ?_ | refine AWi.blockK fun _ => ?_ | refine KI.go ?_) | ((first | refine AWi.region tabOk ?_ | refine AWi.condK fun _ _ => ?_); simp [-getElem?_pos, z0, z1, z2, t0, t8, t9, me, mk9]) | ((first | refine AWi.ret ?_ | refine AWi.skip ?_ | refine AWi.exit ?_); try simp only [thenP]) | (with_reducible refine BB.go ?_; simp only [blockP, thenP, reduceIte]))
  generalize hnb : n1 + 1 + 1 + 1 + 1 + 1 + 1 + 1 + 1 + 1 + 1 + 1 + 1 + 1 + 1 + 1 = nb
  refine ExecI.callC (onward_w c a k _ _) rfl (by simp [calleeS, evList, iD]) ?_
  rintro y n' m' ⟨rfl, rfl, rfl⟩
  simp [-getElem?_pos, z0, z1, z2]
  repeat (first | (with_reducible first | refine AWi.seqK fun _ => ?_ | refine AWi.blockK fun _ => ?_ | refine KI.go ?_) | (refine AWi.condK fun _ _ => ?_; simp [-getElem?_pos, z0, z1, z2, z0]) | ((first | refine AWi.ret ?_ | refine AWi.skip ?_ | refine AWi.exit ?_); try simp only [thenP]) | (with_reducible refine BB.go ?_; simp only [blockP, thenP, reduceIte]))
  have hga : GoodE a := hgood a (by simp)
  have hcn : c < nb := by omega
  have b1 : n1 < nb := by omega
  have b2 : ∀ d : Nat, ¬ n = nb + d := fun d => by omega
  refine AWi.iterK2 (onward1_2 l hl hn6 rs hrs a hga k hk (nb + 1 + 1) nb (nb + 1) c) (f := 84) (us := []) (vs := [.ptr (nb + 1 + 1) 0 0, .ptr nb 0 0, .ptr (nb + 1) 0 0]) (by simp [opd, evList]) (fun _ => rfl) (fun _ h => by cases h) rfl (by intro z hz; obtain ⟨x, _, rfl⟩ := List.mem_map.1 hz; rfl)
    (fun i nn O mm => II l rs c n m k a A B M v n1 nb i nn O mm) (fun cd nn O mm => False) II.stable ?_ ?_ ?_ ?_ ?_ ?_
  · rintro cd nn O mm n3 O3 m3 h1 h2 h3 h4
    exact h4
  · rintro i nn O mm h
    exact ⟨⟨false, h.o3⟩, ⟨false, h.o1⟩, ⟨false, h.o2⟩, hc.k fun j hj => h.low j hj⟩
  · have ho : ∀ j, j < nb → onwM s2.mem c a k nb j = s2.mem j := fun j hj => by
      simp [show ¬ j = nb by omega, show ¬ j = nb + 1 by omega, show ¬ j = nb + 1 + 1 by omega]
    have hs : ∀ j, j < n1 → ¬ j = n + 1 + 1 + 1 → onwM s2.mem c a k nb j = s.mem j := fun j hj hne => (ho j (by omega)).trans (low2 j hj hne)
    have hm0 : foundM l rs k a M 0 = M := by funext st; simp [foundM]
    refine ⟨⟨by omega, by omega, by omega, by omega⟩, by omega, fun _ h => h.elim, fun j hj => (hs j (by omega) (by omega)).trans (low j hj), by simp, by simp, by simp, (hs _ (by omega) (by omega)).trans (by rw [hm0]; exact mk), ⟨es, ck, (ho _ (by omega)).trans mm2, hes'⟩, (hs _ (by omega) (by omega)).trans mb, (ho _ (by omega)).trans mk9, ⟨id, off, cp, cells, i1, by omega, fun h => h, i3, .inl i2, (hs _ (by omega) (by omega)).trans (by rw [v4, hN]; rfl), (hs _ (by omega) (by omega)).trans i4, hQ⟩, fun b hb => hgood b (List.mem_cons_of_mem _ (List.mem_append_right _ hb)), (List.nodup_cons.1 hnd).2⟩
  · rintro i n3 O m3 z hz hn3 hOn hI kr
    rw [List.getElem?_map, Option.map_eq_some_iff] at hz
    obtain ⟨⟨st, x0⟩, hx0, rfl⟩ := hz
    obtain ⟨⟨q1, q2, q3, q4⟩, c2, c3, c4, c5, c6, c7, c8, ⟨es2, ck2, c9, d0⟩, d1, d2, ⟨id2, off2, cp2, cells2, g1, g2, g3, g4, g5, g6, g7, gQ⟩, d3, dn⟩ := (show _ from hI)
    repeat (first | (with_reducible first | refine AWi.seqK fun _ => ?_ | refine AWi.blockK fun _ => ?_ | refine KI.go ?_) | ((first | refine AWi.region tabOk ?_ | refine AWi.condK fun _ _ => ?_); simp [-getElem?_pos, z0, z1, z2, putAll, strkV]) | ((first | refine AWi.ret ?_ | refine AWi.skip ?_ | refine AWi.exit ?_); try simp only [thenP]) | (with_reducible refine BB.go ?_; simp only [blockP, thenP, reduceIte]))
    refine RB2.go (by omega) (fun j hj => by simp [show ¬ j = n3 + 1 by omega]) fun rc hrc qq => ?_
    obtain ⟨hst6, hgx⟩ := onwX_good hl hn6 hga hx0
    have hsti : (st : Int) < 6 := by omega
    have hst5 : st ≤ 5 := by omega
    have r1 : ∀ d : Nat, ¬ n = nb + d := fun d => by omega
    have r2 : ∀ d : Nat, ¬ n = n3 + d := fun d => by omega
    have r3 : ∀ d : Nat, ¬ n1 = nb + d := fun d => by omega
    have r4 : ∀ d : Nat, ¬ n1 = n3 + d := fun d => by omega
    have r5 : ∀ d : Nat, ¬ nb = n3 + d := fun d => by omega
    have r6 : ¬ n = n3 := by omega
    have r7 : ¬ n1 = n3 := by omega
    have r8 : ¬ nb = n3 := by omega
    have r9 : ¬ n = nb := by omega
    have r10 : ¬ n1 = nb := by omega
    have r11 : ¬ n1 + 1 + 1 + 1 + 1 + 1 + 1 + 1 + 1 = nb + 1 + 1 + 1 + 1 + 1 + 1 := by omega
    have r12 : ¬ n1 + 1 + 1 + 1 + 1 + 1 + 1 + 1 + 1 = n3 + 1 := by omega
    have r13 : ¬ n1 + 2 = nb := by omega
    have r14 : ¬ n1 + 7 = n3 := by omega
    have r15 : ¬ n3 + 1 = nb + 1 + 1 + 1 + 1 + 1 + 1 := by omega
    have r16 : ¬ n3 = nb + 5 := by omega
    have r17 : ¬ n + 1 + 1 = nb + 1 + 1 + 1 + 1 + 1 + 1 := by omega
    have r18 : ¬ n + 1 + 1 = n3 + 1 := by omega
    have r19 : ¬ n + 1 = n3 := by omega
    refine AWi.blockK fun _ => ?_
    refine AWi.seqK fun _ => ?_
    refine AWi.mono (Q := fun ex n4 s4 => ex = .normal ∧ n3 + 1 + 1 + 1 ≤ n4 ∧ s4.slots 5 = .ptr (n + 1 + 1) 0 0 ∧ s4.slots 6 = .ptr (n + 1 + 1 + 1 + 1) 0 0 ∧ s4.slots 7 = .ptr v 0 0 ∧ s4.slots 9 = .ptr (n1 + 1 + 1 + 1 + 1 + 1 + 1 + 1 + 1) 0 0 ∧ s4.slots 11 = .ptr (n3 + 1) 0 0 ∧ s4.mem (n3 + 1) = some (.box 24 [.d (iD x0.depth), .d (iD x0.burr)] false) ∧ s4.mem (n + 1 + 1) = some (.box 113 (markS (foundM l rs k a M (i + 1))) false) ∧ s4.mem (nb + 1 + 1 + 1 + 1 + 1 + 1) = rc ∧ ∀ j, j < n3 → ¬ j = n + 1 + 1 → ¬ j = nb + 1 + 1 + 1 + 1 + 1 + 1 → s4.mem j = m3 j) ?_ ?_
    · have hfm := foundM_next M hx0
      by_cases hk1 : k = 1
      · have hki : (k : Int) = 1 := by omega
        rw [if_pos hk1] at hfm
        rw [hfm]
        repeat (first | (with_reducible first | refine AWi.seqK fun _ => ?_ | refine AWi.blockK fun _ => ?_ | refine KI.go ?_) | ((first | refine AWi.region tabOk ?_ | refine AWi.condK fun _ _ => ?_); simp [-getElem?_pos, z0, z1, z2, t5, t6, t7, t9, d2, hki, c8, hsti, hst5, r1, r2, r3, r4, r5, r6, r7, r8, r9, r10, r11, r12, r13, r14, r15, r16, r17, r18, r19]) | ((first | refine AWi.ret ?_ | refine AWi.skip ?_ | refine AWi.exit ?_); try simp only [thenP]) | (with_reducible refine BB.go ?_; simp only [blockP, thenP, reduceIte]))
        have hput := markS_put (foundM l rs k a M i) hst6
        simp only [bD] at hput
        refine ⟨by omega, ?_, fun h => by omega, fun j h1 h2 h3 => by simp [h2, h3, show ¬ j = n3 + 1 by omega]⟩
        rw [hput]
        congr 1
        funext t
        by_cases e : t = st <;> simp [e]
      · have hki : ¬ (k : Int) = 1 := by omega
        rw [if_neg hk1] at hfm
        rw [hfm]
        repeat (first | (with_reducible first | refine AWi.seqK fun _ => ?_ | refine AWi.blockK fun _ => ?_ | refine KI.go ?_) | ((first | refine AWi.region tabOk ?_ | refine AWi.condK fun _ _ => ?_); simp [-getElem?_pos, z0, z1, z2, t5, t6, t7, t9, d2, hki, c8, hsti, hst5, r1, r2, r3, r4, r5, r6, r7, r8, r9, r10, r11, r12, r13, r14, r15, r16, r17, r18, r19]) | ((first | refine AWi.ret ?_ | refine AWi.skip ?_ | refine AWi.exit ?_); try simp only [thenP]) | (with_reducible refine BB.go ?_; simp only [blockP, thenP, reduceIte]))
        refine ⟨trivial, by omega, by simp [t5], by simp [t6], by simp [t7], by simp [t9], by simp, by simp [r15, r16], by simp [r17, r18, r1, r19, c8], by simp, fun j h1 h2 h3 => by simp [h3, show ¬ j = n3 + 1 by omega]⟩
    rintro ex n4 s4 ⟨rfl, hn4, u5, u6, u7, u9, u11, me4, mk4, mr4, low4⟩
    try simp only [thenP]
    repeat (first | (with_reducible first | refine AWi.seqK fun _ => ?_ | refine AWi.blockK fun _ => ?_ | refine KI.go ?_) | (refine AWi.condK fun _ _ => ?_; simp [-getElem?_pos, z0, z1, z2, z0]) | ((first | refine AWi.ret ?_ | refine AWi.skip ?_ | refine AWi.exit ?_); try simp only [thenP]) | (with_reducible refine BB.go ?_; simp only [blockP, thenP, reduceIte]))
    have hmp4 : s4.mem (n + 1 + 1 + 1) = some (mapB mpI es2 ck2) := (low4 _ (by omega) (by omega) (by omega)).trans c9
    have hmb4 : s4.mem (n + 1 + 1 + 1 + 1) = some (.box 114 [.mp (n + 1 + 1 + 1)] false) := (low4 _ (by omega) (by omega) (by omega)).trans d1
    have hlf4 : s4.mem (n1 + 1 + 1 + 1 + 1 + 1 + 1 + 1 + 1) = some (.box 3 [.d (iD (k : Int))] false) := (low4 _ (by omega) (by omega) (by omega)).trans d2
    obtain ⟨lv, hlv⟩ := d0.waits mpI x0
    obtain ⟨wb, hwb⟩ : ∃ wb, wb = decide (x0 ∈ A ++ foundQ l rs k a A B i) := ⟨_, rfl⟩
    rw [← hwb] at hlv
    refine AWi.regionS ?_
    refine ExecS.plain tabOk (out := { res := .mp (n + 1 + 1 + 1) }) rfl rfl (by simp [-getElem?_pos, z0, z1, z2, u6, hmb4]) ?_
    refine ExecS.plain tabOk (out := { res := .agg (heS x0) }) rfl rfl (by simp [-getElem?_pos, z0, z1, z2, putS, heS, u11, me4]) ?_
    refine ExecS.lookup mtOk (id := n + 1 + 1 + 1) (clock := ck2) (es := es2) (kv := .agg (heS x0)) (l := heK x0) rfl rfl mpI_of (by simp [-getElem?_pos, z0, z1, z2, putS]) (by simp [-getElem?_pos, z0, z1, z2, putS, hmp4]) (by simp [-getElem?_pos, z0, z1, z2, putS]) rfl d0.lens ?_
    rw [hlv]
    refine ExecS.plain tabOk (out := { res := .tup [lv, .d (.val (.bool wb))] }) rfl rfl (by simp [-getElem?_pos, z0, z1, z2, putS]) ?_
    refine ExecS.plain tabOk (out := { res := lv }) rfl rfl (by simp [-getElem?_pos, z0, z1, z2, putS]) ?_
    refine ExecS.plain tabOk (out := { res := .d (.val (.bool wb)) }) rfl rfl (by simp [-getElem?_pos, z0, z1, z2, putS]) ?_
    refine ExecS.plain tabOk (out := { res := lv }) rfl rfl (by simp [-getElem?_pos, z0, z1, z2, putS]) ?_
    refine ExecS.plain tabOk (out := { res := .d (.val (.bool wb)) }) rfl rfl (by simp [-getElem?_pos, z0, z1, z2, putS]) ?_
    simp [putS, ExecS]
    try simp only [thenP]
    repeat (first | (with_reducible first | refine AWi.seqK fun _ => ?_ | refine AWi.blockK fun _ => ?_ | refine KI.go ?_) | (refine AWi.condK fun _ _ => ?_; simp [-getElem?_pos, z0, z1, z2, z0]) | ((first | refine AWi.ret ?_ | refine AWi.skip ?_ | refine AWi.exit ?_); try simp only [thenP]) | (with_reducible refine BB.go ?_; simp only [blockP, thenP, reduceIte]))
    have hqn := foundQ_next A B hx0
    have low5 : ∀ j, j < n3 → ¬ j = n + 1 + 1 → ¬ j = nb + 1 + 1 + 1 + 1 + 1 + 1 → s4.mem j = m3 j := low4
    rcases wb with _ | _
    · have hnw : x0 ∉ A ++ foundQ l rs k a A B i := of_decide_eq_false hwb.symm
      have hqi : foundQ l rs k a A B (i + 1) = foundQ l rs k a A B i ++ [x0] := by rw [hqn, addQ, if_neg hnw]
      have w1 : IntKind.i64.wrap ((k : Int) - 1) = (k : Int) - 1 := wrap64_in (by omega)
      refine AWi.region tabOk ?_
      simp [-getElem?_pos, z0, z1, z2]
      repeat (first | (with_reducible first | refine AWi.seqK fun _ => ?_ | refine AWi.blockK fun _ => ?_ | refine KI.go ?_) | (refine AWi.condK fun _ _ => ?_; simp [-getElem?_pos, z0, z1, z2, z0]) | ((first | refine AWi.ret ?_ | refine AWi.skip ?_ | refine AWi.exit ?_); try simp only [thenP]) | (with_reducible refine BB.go ?_; simp only [blockP, thenP, reduceIte]))
      refine AWi.regionS ?_
      refine ExecS.plain tabOk (out := { res := .mp (n + 1 + 1 + 1) }) rfl rfl (by simp [-getElem?_pos, z0, z1, z2, u6, hmb4]) ?_
      refine ExecS.plain tabOk (out := { res := .agg (heS x0) }) rfl rfl (by simp [-getElem?_pos, z0, z1, z2, putS, heS, u11, me4]) ?_
      refine ExecS.plain tabOk (out := { res := .d (iD (k : Int)) }) rfl rfl (by simp [-getElem?_pos, z0, z1, z2, putS, u9, hlf4]) ?_
      refine ExecS.plain tabOk (out := { res := .d (iD ((k : Int) - 1)) }) rfl rfl (by simp [-getElem?_pos, z0, z1, z2, putS, w1]) ?_
      refine ExecS.insert mtOk (.inl rfl) (id := n + 1 + 1 + 1) (clock := ck2) (es := es2) (kv := .agg (heS x0)) (vv := .d (iD ((k : Int) - 1))) (l := heK x0) rfl mpI_of (by simp [-getElem?_pos, z0, z1, z2, putS]) (by simp [-getElem?_pos, z0, z1, z2, putS, hmp4]) (by simp [-getElem?_pos, z0, z1, z2, putS]) rfl d0.lens (d0.no hnw) (by simp [-getElem?_pos, z0, z1, z2, putS]) ?_
      simp [putS, ExecS]
      try simp only [thenP]
      repeat (first | (with_reducible first | refine AWi.seqK fun _ => ?_ | refine AWi.blockK fun _ => ?_ | refine KI.go ?_) | (refine AWi.condK fun _ _ => ?_; simp [-getElem?_pos, z0, z1, z2, z0]) | ((first | refine AWi.ret ?_ | refine AWi.skip ?_ | refine AWi.exit ?_); try simp only [thenP]) | (with_reducible refine BB.go ?_; simp only [blockP, thenP, reduceIte]))
      obtain ⟨N2, hN2⟩ : ∃ N2, N2 = (a :: A ++ foundQ l rs k a A B i).length := ⟨_, rfl⟩
      have hQle2 := gQ.le
      have hroom2 := gQ.room
      rw [← hN2] at g6 hQle2
      have hv4 : s4.mem v = some (.box 99 [.sl id2 off2 N2 (some cp2)] false) := (low4 _ (by omega) (by omega) (by omega)).trans g6
      have hi4 : s4.mem id2 = some (.box 24 cells2 false) := (low4 _ (by omega) (by omega) (fun e => g3 (.inr e))).trans g7
      have z1 : ¬ v = n + 1 + 1 + 1 := by omega
      have z2 : ¬ n3 = n + 1 + 1 := by omega
      have z3 : ¬ id2 = n + 1 + 1 + 1 := by omega
      generalize hn5 : n4 + 1 + 1 + 1 + 1 + 1 + 1 + 1 + 1 + 1 + 1 + 1 + 1 + 1 = n5
      refine AWi.regionS ?_
      refine ExecS.plain tabOk (out := { res := .sl id2 off2 N2 (some cp2) }) rfl rfl (by simp [-getElem?_pos, z0, z1, z2, u7, hv4, z1]) ?_
      refine ExecS.plain tabOk (out := { res := .agg (heS x0) }) rfl rfl (by simp [-getElem?_pos, z0, z1, z2, putS, heS, u11, me4, z2]) ?_
      refine ExecS.plain tabOk (out := { res := .own (n5 + 1 + 1) 1 2, nw := some (.row 24 2 [heRow x0] false) }) rfl rfl (by simp [-getElem?_pos, z0, z1, z2, putS, heS]) ?_
      have hnd5 := waits_le dn fun b hb => by
        rcases List.mem_append.1 hb with hb | hb
        · exact hgood b (List.mem_cons_of_mem _ (List.mem_append_left _ hb))
        · exact d3 b hb
      have hN5 : N2 ≤ 708 := by rw [hN2]; simp only [List.cons_append, List.length_cons]; omega
      have z4 : ¬ n5 + 1 + 1 = id2 := by omega
      have z5 : ¬ id2 = n5 + 1 + 1 := by omega
      have z6 : ¬ v = id2 := by omega
      have z7 : ¬ v = n5 + 1 + 1 := by omega
      have z8 : ¬ v = n5 + 1 + 1 + 1 := by omega
      refine ExecS.appendQ tabOk (id := id2) (off := off2) (k := N2) (cp := cp2) (cells := cells2) (yv := .own (n5 + 1 + 1) 1 2) (row := heRow x0) rfl rfl rfl rfl rfl (TB99) rfl (TB24) (by simp [-getElem?_pos, z0, z1, z2, putS]) (by simp [-getElem?_pos, z0, z1, z2, putS, z3, z5, hi4]) (by simpa using hroom2) hQle2 (by simp [-getElem?_pos, z0, z1, z2, putS]) (by simp [-getElem?_pos, z0, z1, z2, putS, srcRows]) (fitsB_small (by omega) (by simp)) ?_
      rintro n6 s6' ⟨rfl, ⟨hrm, rfl⟩ | ⟨cp', hcp', rfl⟩⟩
      · refine ExecS.plain tabOk (out := { res := .und, wr := some (v, some (.box 99 [.sl id2 off2 (N2 + 1) (some cp2)] false)) }) rfl rfl (by simp [-getElem?_pos, z0, z1, z2, putS, u7, hv4, z1, z6, z7, z8]) ?_
        simp [putS, ExecS]
        try simp only [thenP]
        repeat (first | (with_reducible first | refine AWi.seqK fun _ => ?_ | refine AWi.blockK fun _ => ?_ | refine KI.go ?_) | (refine AWi.condK fun _ _ => ?_; simp [-getElem?_pos, z0, z1, z2, z0]) | ((first | refine AWi.ret ?_ | refine AWi.skip ?_ | refine AWi.exit ?_); try simp only [thenP]) | (with_reducible refine BB.go ?_; simp only [blockP, thenP, reduceIte]))
        have hlen : (a :: A ++ foundQ l rs k a A B (i + 1)).length = N2 + 1 := by rw [hqi, hN2]; simp only [List.length_append, List.length_cons, List.length_nil]; omega
        refine RE2.normal (by omega) (fun j hj => ?_) ⟨⟨q1, q2, q3, q4⟩, by omega, c3, fun j hj => ?_, ?_, ?_, ?_, ?_, ⟨es2 ++ [(heK x0, .d (iD ((k : Int) - 1)), ck2)], ck2 + 1, ?_, by rw [hqi]; exact d0.add x0 ck2⟩, ?_, ?_, ⟨id2, off2, cp2, splice cells2 (off2 + N2 * 2) (heS x0), g1, by omega, g3, g4, g5, ?_, ?_, ?_⟩, ?_, by rw [hqn]; exact addQ_nd dn⟩
        · have h8 := hOn j hj
          have h9 := c3 j hj
          have h10 : ¬ j = id2 := fun e => g3 (e ▸ hj)
          by_cases e : j = nb + 1 + 1 + 1 + 1 + 1 + 1
          · subst e
            simp [mr4, h10, show ¬ nb + 1 + 1 + 1 + 1 + 1 + 1 = v by omega, show ¬ nb + 1 + 1 + 1 + 1 + 1 + 1 = n5 + 1 + 1 by omega, show ¬ nb + 1 + 1 + 1 + 1 + 1 + 1 = n + 1 + 1 + 1 by omega, show ¬ nb + 4 = n5 by omega, show ¬ nb + 3 = n by omega, show ¬ nb + 3 = n5 by omega, show ¬ nb + 1 + 1 + 1 = n by omega, show ¬ nb + 1 + 1 + 1 + 1 = n5 by omega, show ¬ nb + 1 + 1 + 1 = n5 by omega]
          · simp [low4 j h8 (by omega) e, e, h10, show ¬ j = n3 + 1 by omega, show ¬ j = v by omega, show ¬ j = n5 + 1 + 1 by omega, show ¬ j = n + 1 + 1 + 1 by omega]
        · simp [show ¬ j = id2 by omega, show ¬ j = v by omega, show ¬ j = n5 + 1 + 1 by omega, show ¬ j = n + 1 + 1 + 1 by omega]
          exact (low4 j (by omega) (by omega) (by omega)).trans (c4 j hj)
        · refine Eq.trans ?_ ((low4 nb (by omega) (by omega) (by omega)).trans c5)
          exact mem_far4 (by omega) (by omega) (by omega) (by omega)
        · refine Eq.trans ?_ ((low4 (nb + 1) (by omega) (by omega) (by omega)).trans c6)
          exact mem_far4 (by omega) (by omega) (by omega) (by omega)
        · refine Eq.trans ?_ ((low4 (nb + 1 + 1) (by omega) (by omega) (by omega)).trans c7)
          exact mem_far4 (by omega) (by omega) (by omega) (by omega)
        · refine Eq.trans ?_ mk4
          exact mem_far4 (by omega) (by omega) (by omega) (by omega)
        · exact (mem_far3 (by omega) (by omega) (by omega)).trans (if_pos rfl)
        · refine Eq.trans ?_ hmb4
          exact mem_far4 (by omega) (by omega) (by omega) (by omega)
        · refine Eq.trans ?_ hlf4
          exact mem_far4 (by omega) (by omega) (by omega) (by omega)
        · rw [hlen]
          exact if_pos rfl
        · refine (if_neg (by omega)).trans ((if_pos rfl).trans ?_)
          first | rfl | simp [splice, heS]
        · rw [hqi, ← List.append_assoc]
          rw [hN2] at hrm ⊢
          exact gQ.room1 x0 hrm
        · rw [hqi]
          intro b hb
          rcases List.mem_append.1 hb with hb | hb
          · exact d3 b hb
          · simp only [List.mem_cons, List.not_mem_nil, or_false] at hb
            rw [hb]
            exact hgx
      · refine ExecS.plain tabOk (out := { res := .und, wr := some (v, some (.box 99 [.sl (n5 + 1 + 1 + 1) 0 (N2 + 1) (some cp')] false)) }) rfl rfl (by simp [-getElem?_pos, z0, z1, z2, putS, u7, hv4, z1, z6, z7, z8]) ?_
        simp [putS, ExecS]
        try simp only [thenP]
        repeat (first | (with_reducible first | refine AWi.seqK fun _ => ?_ | refine AWi.blockK fun _ => ?_ | refine KI.go ?_) | (refine AWi.condK fun _ _ => ?_; simp [-getElem?_pos, z0, z1, z2, z0]) | ((first | refine AWi.ret ?_ | refine AWi.skip ?_ | refine AWi.exit ?_); try simp only [thenP]) | (with_reducible refine BB.go ?_; simp only [blockP, thenP, reduceIte]))
        have hlen : (a :: A ++ foundQ l rs k a A B (i + 1)).length = N2 + 1 := by rw [hqi, hN2]; simp only [List.length_append, List.length_cons, List.length_nil]; omega
        refine RE2.normal (by omega) (fun j hj => ?_) ⟨⟨q1, q2, q3, q4⟩, by omega, c3, fun j hj => ?_, ?_, ?_, ?_, ?_, ⟨es2 ++ [(heK x0, .d (iD ((k : Int) - 1)), ck2)], ck2 + 1, ?_, by rw [hqi]; exact d0.add x0 ck2⟩, ?_, ?_, ⟨n5 + 1 + 1 + 1, 0, cp', (cells2.drop off2).take (N2 * 2) ++ heS x0 ++ zerosC ⟨2, 16, [.int .i64 0, .int .i64 0], .struct [(0, 3), (1, 3)], [.i64, .i64]⟩ ((cp' - (N2 + 1)) * 2), by omega, by omega, fun h => by have := hOn _ h; omega, by omega, .inr (by omega), ?_, ?_, ?_⟩, ?_, by rw [hqn]; exact addQ_nd dn⟩
        · have h8 := hOn j hj
          have h9 := c3 j hj
          have h10 : ¬ j = n5 + 1 + 1 + 1 := by omega
          by_cases e : j = nb + 1 + 1 + 1 + 1 + 1 + 1
          · subst e
            simp [mr4, h10, show ¬ nb + 1 + 1 + 1 + 1 + 1 + 1 = v by omega, show ¬ nb + 1 + 1 + 1 + 1 + 1 + 1 = n5 + 1 + 1 by omega, show ¬ nb + 1 + 1 + 1 + 1 + 1 + 1 = n + 1 + 1 + 1 by omega, show ¬ nb + 4 = n5 by omega, show ¬ nb + 3 = n by omega, show ¬ nb + 3 = n5 by omega, show ¬ nb + 1 + 1 + 1 = n by omega, show ¬ nb + 1 + 1 + 1 + 1 = n5 by omega, show ¬ nb + 1 + 1 + 1 = n5 by omega]
          · simp [low4 j h8 (by omega) e, e, h10, show ¬ j = n3 + 1 by omega, show ¬ j = v by omega, show ¬ j = n5 + 1 + 1 by omega, show ¬ j = n + 1 + 1 + 1 by omega]
        · simp [show ¬ j = n5 + 1 + 1 + 1 by omega, show ¬ j = v by omega, show ¬ j = n5 + 1 + 1 by omega, show ¬ j = n + 1 + 1 + 1 by omega]
          exact (low4 j (by omega) (by omega) (by omega)).trans (c4 j hj)
        · refine Eq.trans ?_ ((low4 nb (by omega) (by omega) (by omega)).trans c5)
          exact mem_far4 (by omega) (by omega) (by omega) (by omega)
        · refine Eq.trans ?_ ((low4 (nb + 1) (by omega) (by omega) (by omega)).trans c6)
          exact mem_far4 (by omega) (by omega) (by omega) (by omega)
        · refine Eq.trans ?_ ((low4 (nb + 1 + 1) (by omega) (by omega) (by omega)).trans c7)
          exact mem_far4 (by omega) (by omega) (by omega) (by omega)
        · refine Eq.trans ?_ mk4
          exact mem_far4 (by omega) (by omega) (by omega) (by omega)
        · exact (mem_far3 (by omega) (by omega) (by omega)).trans (if_pos rfl)
        · refine Eq.trans ?_ hmb4
          exact mem_far4 (by omega) (by omega) (by omega) (by omega)
        · refine Eq.trans ?_ hlf4
          exact mem_far4 (by omega) (by omega) (by omega) (by omega)
        · rw [hlen]
          exact if_pos rfl
        · refine (if_neg (by omega)).trans ((if_pos rfl).trans ?_)
          first | rfl | simp [splice, heS]
        · rw [hqi, ← List.append_assoc]
          rw [hN2] at hcp' ⊢
          exact gQ.grow x0 cp' hcp' _ (by rw [zerosC_len])
        · rw [hqi]
          intro b hb
          rcases List.mem_append.1 hb with hb | hb
          · exact d3 b hb
          · simp only [List.mem_cons, List.not_mem_nil, or_false] at hb
            rw [hb]
            exact hgx
    · have hnw : x0 ∈ A ++ foundQ l rs k a A B i := of_decide_eq_true hwb.symm
      have hqi : foundQ l rs k a A B (i + 1) = foundQ l rs k a A B i := by rw [hqn, addQ, if_pos hnw]
      refine AWi.region tabOk ?_
      simp [-getElem?_pos, z0, z1, z2]
      repeat (first | (with_reducible first | refine AWi.seqK fun _ => ?_ | refine AWi.blockK fun _ => ?_ | refine KI.go ?_) | (refine AWi.condK fun _ _ => ?_; simp [-getElem?_pos, z0, z1, z2, z0]) | ((first | refine AWi.ret ?_ | refine AWi.skip ?_ | refine AWi.exit ?_); try simp only [thenP]) | (with_reducible refine BB.go ?_; simp only [blockP, thenP, reduceIte]))
      refine RE2.normal (by omega) (fun j hj => ?_) ⟨⟨q1, q2, q3, q4⟩, by omega, c3, fun j hj => (low4 j (by omega) (by omega) (by omega)).trans (c4 j hj), (low4 _ (by omega) (by omega) (by omega)).trans c5, (low4 _ (by omega) (by omega) (by omega)).trans c6, (low4 _ (by omega) (by omega) (by omega)).trans c7, mk4, ⟨es2, ck2, hmp4, by rw [hqi]; exact d0⟩, hmb4, hlf4, ⟨id2, off2, cp2, cells2, g1, by omega, g3, g4, g5, (low4 _ (by omega) (by omega) (by omega)).trans (by rw [hqi]; exact g6), (low4 _ (by omega) (by omega) (fun e => g3 (.inr e))).trans g7, by rw [hqi]; exact gQ⟩, by rw [hqi]; exact d3, by rw [hqi]; exact dn⟩
      have h8 := hOn j hj
      have h9 := c3 j hj
      by_cases e : j = nb + 1 + 1 + 1 + 1 + 1 + 1
      · subst e
        simp [mr4]
      · simp [low4 j h8 (by omega) e, e, show ¬ j = n3 + 1 by omega]
  · rintro n' O m' hn' hO ⟨-, c2, c3, c4, c5, c6, c7, c8, ⟨es2, ck2, c9, d0⟩, d1, d2, ⟨id2, off2, cp2, cells2, g1, g2, g3, g4, g5, g6, g7, gQ⟩, d3, dn⟩
    have hfq : foundQ l rs k a A B (List.map strkV (onwX l rs a k)).length = (onwX l rs a k).foldl (fun B p => addQ A B p.2) B := by rw [foundQ, List.length_map, List.take_length]
    have hfm : foundM l rs k a M (List.map strkV (onwX l rs a k)).length = fun st => M st || (decide (k = 1) && decide (st ∈ (onwX l rs a k).map (·.1))) := by
      funext st
      rw [foundM, List.length_map, List.take_length]
    rw [hfm] at c8
    rw [hfq] at d0 g6 gQ d3 dn
    obtain ⟨B2, hB2⟩ : ∃ B2, B2 = (onwX l rs a k).foldl (fun B p => addQ A B p.2) B := ⟨_, rfl⟩
    rw [← hB2] at d0 g6 gQ d3 dn
    obtain ⟨N2, hN2⟩ : ∃ N2, N2 = (a :: A ++ B2).length := ⟨_, rfl⟩
    have hN3 : N2 = (A ++ B2).length + 1 := by rw [hN2]; rfl
    have hQle2 := gQ.le
    rw [← hN2] at g6 hQle2
    repeat (first | (with_reducible first | refine AWi.seqK fun _ => ?_ | refine AWi.blockK fun _ => ?_ | refine KI.go ?_) | (refine AWi.condK fun _ _ => ?_; simp [-getElem?_pos, z0, z1, z2, z0]) | ((first | refine AWi.ret ?_ | refine AWi.skip ?_ | refine AWi.exit ?_); try simp only [thenP]) | (with_reducible refine BB.go ?_; simp only [blockP, thenP, reduceIte]))
    refine AWi.region tabOk ?_
    simp [-getElem?_pos, z0, z1, z2, t7, g6]
    repeat (first | (with_reducible first | refine AWi.seqK fun _ => ?_ | refine AWi.blockK fun _ => ?_ | refine KI.go ?_) | (refine AWi.condK fun _ _ => ?_; simp [-getElem?_pos, z0, z1, z2, z0]) | ((first | refine AWi.ret ?_ | refine AWi.skip ?_ | refine AWi.exit ?_); try simp only [thenP]) | (with_reducible refine BB.go ?_; simp only [blockP, thenP, reduceIte]))
    refine AWi.region tabOk ?_
    simp [-getElem?_pos, z0, z1, z2]
    repeat (first | (with_reducible first | refine AWi.seqK fun _ => ?_ | refine AWi.blockK fun _ => ?_ | refine KI.go ?_) | (refine AWi.condK fun _ _ => ?_; simp [-getElem?_pos, z0, z1, z2, z0]) | ((first | refine AWi.ret ?_ | refine AWi.skip ?_ | refine AWi.exit ?_); try simp only [thenP]) | (with_reducible refine BB.go ?_; simp only [blockP, thenP, reduceIte]))
    refine AWi.regionS ?_
    refine ExecS.plain tabOk (out := { res := .sl id2 off2 N2 (some cp2) }) rfl rfl (by simp [-getElem?_pos, z0, z1, z2]) ?_
    refine ExecS.rest tabOk (kd := .i64) (id := id2) (off := off2) (k := N2) (cp := cp2) (l := 1) rfl rfl (TB99) rfl (TB24) (by simp [-getElem?_pos, z0, z1, z2, putS]) (by simp [-getElem?_pos, z0, z1, z2]) (by omega) hQle2 ?_
    refine ExecS.plain tabOk (out := { res := .und, wr := some (n' + 1, some (.box 99 [.sl id2 (if cp2 = 1 then off2 else off2 + 1 * 2) (N2 - 1) (some (cp2 - 1))] false)) }) rfl rfl (by simp [-getElem?_pos, z0, z1, z2, putS]) ?_
    simp [putS, ExecS]
    try simp only [thenP]
    have e1 : ∀ j, j < n' → ¬ j = n' + 1 := fun j hj => by omega
    refine LI.go (k, A, B2, fun st => M st || (decide (k = 1) && decide (st ∈ (onwX l rs a k).map (·.1)))) ⟨by omega, by simp [t0], by simp [t5], by simp [t6], ⟨n' + 1, _, by omega, by omega, by simp, by simp; rfl, ⟨id2, _, cp2 - 1, cells2, g1, by omega, by omega, ?_, by simp [show ¬ id2 = n' + 1 by omega, g7], gQ.tail⟩⟩, by simp [show ¬ n + 1 = n' by omega, c8], ⟨es2, ck2, by simp [show ¬ n + 1 + 1 = n' by omega, c9], d0⟩, by simp [show ¬ n + 1 + 1 + 1 = n' by omega, d1], fun j hj => by simp [e1 _ (show j < n' by omega), c4 j hj], hk, ?_, ?_, fun st => ?_, dn⟩ ?_
    · rw [show N2 - 1 = (A ++ B2).length by omega, Nat.one_mul]
    · intro h0
      have hB0 := hb0 h0
      subst h0
      subst hB0
      rw [hB2]
      rfl
    · intro b hb
      rcases List.mem_append.1 hb with hb | hb
      · exact hgood b (List.mem_cons_of_mem _ (List.mem_append_left _ hb))
      · exact d3 b hb
    · rw [← hfin st, restG_one, ← hB2]
      simp only [Bool.or_eq_true, Bool.and_eq_true, decide_eq_true_eq]
      by_cases hk1 : k = 1
      · subst hk1
        rw [or_assoc]
      · simp [hk1]
    · show muG l rs k A B2 < muG l rs k0 A0 B0
      rw [← hmu, muG_one, ← hB2]
      omega
  · rintro cd n' O m' hn' hO h
    exact h.elim
end Go.Proofs.Ytcmkkgdjhjpldaa.Eng

noncomputable section
namespace Go.Proofs.Ytcmkkgdjhjpldaa.Eng
open Go.RowKit
set_option maxRecDepth 100000 in
set_option maxHeartbeats 8000000 in
theorem ends_x (l : List HS) (e g : HE) (n : Nat) (m : Mem) :
    CWp Try.prog 38 [.d (boxD l), .d (edgD e), .d (edgD g)] n m fun y _ m' => (∀ j, j < n → m' j = m j) ∧ toD4 y = some (.tup [intL (endsO l e g), iD (reachE l g e)]) := by
  refine cwpK tabOk Try.func38 rfl rfl (show 3 ≤ _ by decide) rfl fun _ => ?_; simp only [Try.ntmps38]
  repeat (first | (with_reducible first | refine AWi.seqK fun _ => ?_ | refine AWi.blockK fun _ => ?_ | refine KI.go ?_) | ((first | refine AWi.region tabOk ?_ | refine AWi.condK fun _ _ => ?_); simp [-getElem?_pos, z0, z1, z2, z0]) | ((first | refine AWi.ret ?_ | refine AWi.skip ?_ | refine AWi.exit ?_); try simp only [thenP]) | (with_reducible refine BB.go ?_; simp only [blockP, thenP, reduceIte]))
  refine ExecI.callC (checkReach_w l e g _ _) rfl (by simp [calleeS, evList]) ?_
  rintro y n1 m1 ⟨hn1, hm1, hy⟩
  have hlow : ∀ j, j < n → m1 j = m j := fun j hj => (hm1 j (by omega)).trans (by (try dsimp only); repeat (first | rw [setMem_lt (by omega)] | rw [putN_lt (by omega)]))
  have he : m1 n = some (.box 24 [.d (iD e.depth), .d (iD e.burr)] false) := (hm1 n (by omega)).trans (by simp)
  by_cases h0 : chkErr l [e, g] = 0
  · rw [if_pos h0] at hy
    obtain ⟨hb, hes⟩ := chkOk h0
    have ge := goodE (e := e) (by simp at hes; exact hes.1)
    obtain ⟨k, hneed⟩ | hneed : (∃ k, needN l g e = some k) ∨ needN l g e = none := by
      cases needN l g e
      · exact .inr rfl
      · exact .inl ⟨_, rfl⟩
    · rw [hneed] at hy
      obtain ⟨c, rfl, hc⟩ := hy
      obtain ⟨hk1, hk2⟩ := rows_take hneed
      have hE : reachE l g e = 0 := by rw [reachE, if_pos h0, hneed]
      have hO : endsO l e g = endsL l ((rowsG l g).take k) e := by rw [endsO, if_pos h0, hneed]; simp only [endsL, hk1]
      simp [-getElem?_pos, z0, z1, z2]
      repeat (first | (with_reducible first | refine AWi.seqK fun _ => ?_ | refine AWi.blockK fun _ => ?_ | refine KI.go ?_) | ((first | refine AWi.region tabOk ?_ | refine AWi.condK fun _ _ => ?_); simp [-getElem?_pos, z0, z1, z2, he]) | ((first | refine AWi.ret ?_ | refine AWi.skip ?_ | refine AWi.exit ?_); try simp only [thenP]) | (with_reducible refine BB.go ?_; simp only [blockP, thenP, reduceIte]))
      refine ExecI.callC (ends_w l hb.all hb.n2 ((rowsG l g).take k) (by omega) e ge c n _ _ (hc.wide (by omega) (by omega))) rfl (by simp [calleeS, evList]) ?_
      rintro y n2 m2 ⟨rfl, hm2⟩
      simp [-getElem?_pos, z0, z1, z2]
      repeat (first | (with_reducible first | refine AWi.seqK fun _ => ?_ | refine AWi.blockK fun _ => ?_ | refine KI.go ?_) | ((first | refine AWi.region tabOk ?_ | refine AWi.condK fun _ _ => ?_); simp [-getElem?_pos, z0, z1, z2, z0]) | ((first | refine AWi.ret ?_ | refine AWi.skip ?_ | refine AWi.exit ?_); try simp only [thenP]) | (with_reducible refine BB.go ?_; simp only [blockP, thenP, reduceIte]))
      exact RI.ret rfl ⟨fun j hj => (hm2 j (by omega)).trans (hlow j hj), by rw [hE, hO]; rfl⟩
    · rw [hneed] at hy
      subst hy
      have hE : reachE l g e = 13 := by rw [reachE, if_pos h0, hneed]
      have hO : endsO l e g = [] := by rw [endsO, if_pos h0, hneed]
      simp [-getElem?_pos, z0, z1, z2]
      repeat (first | (with_reducible first | refine AWi.seqK fun _ => ?_ | refine AWi.blockK fun _ => ?_ | refine KI.go ?_) | ((first | refine AWi.region tabOk ?_ | refine AWi.condK fun _ _ => ?_); simp [-getElem?_pos, z0, z1, z2, z0]) | ((first | refine AWi.ret ?_ | refine AWi.skip ?_ | refine AWi.exit ?_); try simp only [thenP]) | (with_reducible refine BB.go ?_; simp only [blockP, thenP, reduceIte]))
      exact RI.ret rfl ⟨hlow, by rw [hE, hO]; rfl⟩
  · rw [if_neg h0] at hy
    subst hy
    have hE : reachE l g e = chkErr l [e, g] := if_neg h0
    have hO : endsO l e g = [] := if_neg h0
    simp [-getElem?_pos, z0, z1, z2]
    repeat (first | (with_reducible first | refine AWi.seqK fun _ => ?_ | refine AWi.blockK fun _ => ?_ | refine KI.go ?_) | ((first | refine AWi.region tabOk ?_ | refine AWi.condK fun _ _ => ?_); simp [-getElem?_pos, z0, z1, z2, h0]) | ((first | refine AWi.ret ?_ | refine AWi.skip ?_ | refine AWi.exit ?_); try simp only [thenP]) | (with_reducible refine BB.go ?_; simp only [blockP, thenP, reduceIte]))
    exact RI.ret rfl ⟨hlow, by rw [hE, hO]; rfl⟩
theorem ends_c (l : List HS) (e g : HE) : ACall Try.prog 38 [boxD l, edgD e, edgD g] (.tup [intL (endsO l e g), iD (reachE l g e)]) :=
  ACall.ofR (RCall.of4 (n0 := 0) fun n _ => (ends_x l e g n _).mono fun _ _ _ h => ⟨h.2, h.1⟩)
end Go.Proofs.Ytcmkkgdjhjpldaa.Eng

namespace Go.Proofs.Ytcmkkgdjhjpldaa.Eng
variable {P : Program}
theorem RCall.ofLin {f : FuncId} {svs : List SV} {ds : List Dat} {e : Dat} {m : Mem} {n0 : Nat} (hlen : ds.length ≤ 1000000) (hone : ∀ d ∈ ds, d.one = true) (h : ∀ n, n0 ≤ n → CWp P f svs n m fun y _ m' => (∃ id ty, n ≤ id ∧ y = .tup [.lin id ds.length, .d e] ∧ m' id = some (.box ty (ds.map .d) false)) ∧ ∀ j, j < n → m' j = m j) : RCall P f svs (.tup [.list (ds.map fun d => [d]), e]) m :=
  ⟨(h n0 (Nat.le_refl _)).callable, fun W0 R0 D N E w vs hD M h1 h2 => by
    refine ((h (max N n0) (Nat.le_max_right _ _)).calls W0 R0 E w vs (ms_dom M fun i hi => Nat.lt_of_lt_of_le (hD i hi) (Nat.le_max_left _ _)) h1 h2).mono ?_
    rintro ex w' ⟨v, E', n', m', y, rfl, M', hE, hw, hv, ⟨id, ty, hid, rfl, hrow⟩, hm⟩
    have hin : ∀ i b, m i = some b → i < max N n0 := fun i b hi => Nat.lt_of_lt_of_le (hD i (M.dom i (M.live i b hi))) (Nat.le_max_left _ _)
    have hlt : ∀ i b, m i = some b → m' i = some b := fun i b hi => by
      rw [hm i (hin i b hi)]; exact hi
    let E2 : Env := { E' with dom := E.dom, ro := fun b => E'.ro b ∨ b = (E'.home id).blk }
    refine ⟨v, E2, rfl, ⟨M'.below, fun b hb => .inl (M'.ro0 b hb), fun b hb => ?_, fun b hb => ?_, M.dom, M.live, fun i b hi => ?_, fun i b hi => M'.base i b (hlt i b hi), fun i b hi => ?_, fun i j b c hi hj hn => M'.inj i j b c (hlt i b hi) (hlt j c hj) hn⟩, ⟨fun b hb => .inl (hE.ro b hb), fun _ h => h, hE.home⟩, hw, ?_⟩
    · rcases hb with hb | rfl
      · exact M'.ro1 b hb
      · exact .inr fun hu => M'.base id _ hrow hu
    · rcases hb with hb | rfl
      · exact M'.rlt b hb
      · exact (M'.mem id _ hrow).lt
    · exact Holds.restrict (E := E) (E' := E') (E'' := E2) (w := w) (w' := w') (h0 := E.home i) (h := E'.home i) (fun _ h => .inl h) (fun _ h => h) (fun _ _ => rfl) (M'.mem i b (hlt i b hi)) (M.mem i b hi)
    · refine (M'.frz i b (hlt i b hi)).trans ⟨.inl, fun h => h.elim (fun h => h) fun e => ?_⟩
      exact absurd e (M'.inj i id b _ (hlt i b hi) hrow (by have := hin i b hi; omega))
    · cases M'.mem id _ hrow with
      | box _ _ _ cur g1 g2 g3 g4 =>
      rw [List.length_map] at g2
      cases hv with
      | tup _ us k1 k2 =>
      refine .d _ _ (.tup _ us (by rw [k1]; rfl) fun i c u hc hu => ?_)
      match i with
      | 0 =>
        simp only [List.getElem?_cons_zero, Option.some.injEq] at hc
        subst hc
        have hl := k2 0 _ u rfl hu
        cases hl with
        | lin _ _ hd hz hc =>
        have e1 : ds.length = (ds.map fun d => [d]).length := by simp
        rw [e1]
        refine .list _ _ _ (fun i _ => cur.getD i (.int .i64 0)) (by simp) (by simp [maxLen]; omega) (fun r hr c hc => ?_) (fun _ => ⟨_, 0, 1, rfl, .inr rfl, fun r hr => ?_, fun i j hi hj => ?_⟩) fun i j r c hi hj => ?_
        · obtain ⟨d, hd, rfl⟩ := List.mem_map.1 hr
          rw [List.mem_singleton] at hc
          subst hc
          exact hone _ hd
        · obtain ⟨d, hd, rfl⟩ := List.mem_map.1 hr
          rfl
        · have hi' : i < cur.size := by rw [g2]; simpa using hi
          have hj0 : j = 0 := by omega
          subst hj0
          rw [Nat.zero_add, Nat.mul_one, Nat.add_zero, World.cell?]
          simp [g1, Array.getD_eq_getD_getElem?, hi']
        · rw [List.getElem?_map, Option.map_eq_some_iff] at hi
          obtain ⟨d, hd, rfl⟩ := hi
          have hi' : i < cur.size := by rw [g2]; exact (List.getElem?_eq_some_iff.1 hd).1
          have hj0 : j = 0 := by have := (List.getElem?_eq_some_iff.1 hj).1; simp at this; exact this
          subst hj0
          simp only [List.getElem?_cons_zero, Option.some.injEq] at hj
          subst hj
          have h4 := g4 i (.d d) cur[i] (by rw [List.getElem?_map, hd]; rfl) (Array.getElem?_eq_getElem hi')
          rw [show cur.getD i (.int .i64 0) = cur[i] by simp [Array.getD_eq_getD_getElem?, hi']]
          cases h4 with
          | d _ _ h5 => exact h5.keep (ro' := E2.ro) (fun b hb => .inl hb) fun _ _ => rfl
      | 1 =>
        simp only [List.getElem?_cons_succ, List.getElem?_cons_zero, Option.some.injEq] at hc
        subst hc
        have hl := k2 1 _ u rfl hu
        cases hl with
        | d _ _ h5 => exact h5.keep (ro' := E2.ro) (fun b hb => .inl hb) fun _ _ => rfl
      | i + 2 => simp at hc⟩
end Go.Proofs.Ytcmkkgdjhjpldaa.Eng

noncomputable section
namespace Go.Proofs.Ytcmkkgdjhjpldaa.Eng
open Go.RowKit
def rowL (f : Nat → Int) : List Int := tab fun i => f i - 1
def rowsO (l : List HS) (e g : HE) : List (List Int) := if chkErr l [e, g] = 0 then (match needN l g e with
  | some k => ((rowsG l g).take k).map rowL
  | none => []) else []
def linS (rs : List (Nat → Int)) (k : Nat) : List SV := (List.range rs.length).map fun i => if i < k then .d (intL (rowL (rs.getD i fun _ => 0))) else .nilS
@[simp] theorem linS_len (rs : List (Nat → Int)) (k : Nat) : (linS rs k).length = rs.length := by simp [linS]
theorem linS_put {rs : List (Nat → Int)} {k : Nat} {q : Nat → Int} (h : rs[k]? = some q) : List.take k (linS rs k) ++ SV.d (intL (rowL q)) :: List.drop (k + 1) (linS rs k) = linS rs (k + 1) := by
  have hk := (List.getElem?_eq_some_iff.1 h).1
  apply List.ext_getElem?
  intro i
  have ht : (List.take k (linS rs k)).length = k := by simp; omega
  by_cases h1 : i < k
  · rw [List.getElem?_append_left (by omega), List.getElem?_take, if_pos h1]
    simp [linS, show i < rs.length by omega, h1, show i < k + 1 by omega]
  · rw [List.getElem?_append_right (by omega), ht]
    by_cases h2 : i = k
    · subst h2
      have h9 := (List.getElem?_eq_some_iff.1 h).2
      simp [linS, hk, List.getD_eq_getElem?_getD, h9]
    · obtain ⟨d, rfl⟩ : ∃ d, i = k + 1 + d := ⟨i - (k + 1), by omega⟩
      rw [show k + 1 + d - k = d + 1 by omega, List.getElem?_cons_succ, List.getElem?_drop]
      by_cases h3 : k + 1 + d < rs.length
      · simp [linS, h3, show ¬ k + 1 + d < k by omega, show ¬ k + 1 + d < k + 1 by omega]
      · simp [linS, h3]
theorem linS_zero (rs : List (Nat → Int)) : List.replicate rs.length SV.nilS = linS rs 0 := by
  apply List.ext_getElem?
  intro i
  by_cases hi : i < rs.length <;> simp [linS, hi]
theorem linS_end (rs : List (Nat → Int)) : linS rs rs.length = ((rs.map rowL).map intL).map .d := by
  apply List.ext_getElem?
  intro i
  by_cases hi : i < rs.length <;> simp [linS, hi, List.getD_eq_getElem?_getD]
set_option maxRecDepth 100000 in
set_option maxHeartbeats 8000000 in
theorem rows_ok (l : List HS) (e g : HE) (n : Nat) (m : Mem) (h0 : chkErr l [e, g] = 0) {k : Nat} (hneed : needN l g e = some k) :
    CWp Try.prog 25 [.d (boxD l), .d (edgD e), .d (edgD g)] n m fun y _ m' => (∃ id ty, n ≤ id ∧ y = .tup [.lin id k, .d (iD 0)] ∧ m' id = some (.box ty (linS ((rowsG l g).take k) k) false)) ∧ ∀ j, j < n → m' j = m j := by
  obtain ⟨hb, hes⟩ := chkOk h0
  have gg := goodE (e := g) (by simp at hes; exact hes.2)
  obtain ⟨hk1, hk2⟩ := rows_take hneed
  have hrk : ∀ r ∈ (rowsG l g).take k, rowOk r := fun r hr => rowsG_ok hb.all gg r (List.mem_of_mem_take hr)
  refine cwpK tabOk Try.func25 rfl rfl (show 3 ≤ _ by decide) rfl fun _ => ?_; simp only [Try.ntmps25]
  repeat (first | (with_reducible first | refine AWi.seqK fun _ => ?_ | refine AWi.blockK fun _ => ?_ | refine KI.go ?_) | ((first | refine AWi.region tabOk ?_ | refine AWi.condK fun _ _ => ?_); simp [-getElem?_pos, z0, z1, z2, z0]) | ((first | refine AWi.ret ?_ | refine AWi.skip ?_ | refine AWi.exit ?_); try simp only [thenP]) | (with_reducible refine BB.go ?_; simp only [blockP, thenP, reduceIte]))
  refine ExecI.callC (checkReach_w l e g _ _) rfl (by simp [calleeS, evList]) ?_
  rintro y n1 m1 ⟨hn1, hm1, hy⟩
  have hlow : ∀ j, j < n → m1 j = m j := fun j hj => (hm1 j (by omega)).trans (by (try dsimp only); repeat (first | rw [setMem_lt (by omega)] | rw [putN_lt (by omega)]))
  rw [if_pos h0, hneed] at hy
  obtain ⟨c, rfl, x, q1, q2, q3, q4⟩ := hy
  generalize (rowsG l g).take k = rs at *
  subst hk1
  have b1 : 24 * (rs.length : Int) ≤ 140737488355328 := by omega
  have b2 : (rs.length : Int) ≤ 9223372036854775807 := by omega
  have hlx : lenSV x = some rs.length := by
    rcases q4 with ⟨rfl, rfl⟩ | ⟨id, -, -, rfl, -⟩
    · rfl
    · rfl
  have e1 : ¬ c = n1 + 1 + 1 + 1 + 1 + 1 + 1 + 1 + 1 + 1 + 1 + 1 + 1 := by omega
  simp [-getElem?_pos, z0, z1, z2]
  repeat (first | (with_reducible first | refine AWi.seqK fun _ => ?_ | refine AWi.blockK fun _ => ?_ | refine KI.go ?_) | ((first | refine AWi.region tabOk ?_ | refine AWi.condK fun _ _ => ?_); simp [-getElem?_pos, z0, z1, z2, q3, hlx, b1, b2, e1]) | ((first | refine AWi.ret ?_ | refine AWi.skip ?_ | refine AWi.exit ?_); try simp only [thenP]) | (with_reducible refine BB.go ?_; simp only [blockP, thenP, reduceIte]))
  refine AWi.loopK (fun (k : Nat) n2 s => n1 + 1 + 1 + 1 + 1 + 1 + 1 + 1 + 1 + 1 + 1 + 1 + 1 < n2 ∧ s.slots 10 = .lin (n1 + 1 + 1 + 1 + 1 + 1 + 1 + 1 + 1 + 1 + 1 + 1 + 1) rs.length ∧ s.slots 32 = x ∧ s.slots 33 = .d (iD rs.length) ∧ s.slots 34 = .d (iD k) ∧ s.mem (n1 + 1 + 1 + 1 + 1 + 1 + 1 + 1 + 1 + 1 + 1 + 1 + 1) = some (.box 25 (linS rs k) false) ∧ (∀ j, j < n1 → s.mem j = m1 j) ∧ k ≤ rs.length) (fun k => rs.length - k) 0 ?_ ?_
  · refine ⟨by omega, by simp, by simp, by simp [iD], by simp [iD], by simp [linS_zero], fun j hj => ?_, by omega⟩
    simp [show ¬ j = n1 + 1 + 1 + 1 + 1 + 1 + 1 + 1 + 1 + 1 + 1 + 1 + 1 by omega]
  rintro k n2 s ⟨hle, s10, s32, s33, s34, ml, low, hkl⟩ kk
  have w1 : IntKind.i64.wrap ((k : Int) + 1) = (k : Int) + 1 := wrap64_in (by omega)
  by_cases hlt : k < rs.length
  · have hki : (k : Int) < (rs.length : Int) := by omega
    have hkp : k + 1 ≤ rs.length := by omega
    obtain ⟨q, hq⟩ : ∃ q, rs[k]? = some q := ⟨_, List.getElem?_eq_getElem hlt⟩
    have hqo := hrk q (List.mem_of_getElem? hq)
    have hrow : (rowsD rs)[k]? = some ((tab q).map iD) := by rw [rowsD, List.getElem?_map, hq]; rfl
    rcases q4 with ⟨h, -⟩ | ⟨id, i1, i2, rfl, i3⟩
    · rw [h] at hlt; exact absurd hlt (by simp)
    have i4 : s.mem id = some (.row 83 7 (rowsD rs) false) := (low id (by omega)).trans i3
    have cl := list_c q hqo
    have hput := linS_put hq
    rw [rowL] at hput
    have e2 : ¬ n1 + 1 + 1 + 1 + 1 + 1 + 1 + 1 + 1 + 1 + 1 + 1 + 1 = n2 + 3 := by omega
    have e3 : ¬ n2 + 3 = n1 + 1 + 1 + 1 + 1 + 1 + 1 + 1 + 1 + 1 + 1 + 1 + 1 := by omega
    have hrl : (rowsD rs).length = rs.length := by simp [rowsD]
    repeat (first | (with_reducible first | refine AWi.seqK fun _ => ?_ | refine AWi.blockK fun _ => ?_ | refine KI.go ?_) | ((first | refine AWi.region tabOk ?_ | refine AWi.condK fun _ _ => ?_); simp [-getElem?_pos, z0, z1, z2, s10, s32, s33, s34, hki, hlt, hrow, i4]) | ((first | refine AWi.ret ?_ | refine AWi.skip ?_ | refine AWi.exit ?_); try simp only [thenP]) | (with_reducible refine BB.go ?_; simp only [blockP, thenP, reduceIte]))
    have e4 : ¬ n1 + 1 + 1 + 1 + 1 + 1 + 1 + 1 + 1 + 1 + 1 + 1 + 1 = n2 + 1 + 1 + 1 + 1 := by omega
    have e5 : ¬ n1 + 1 + 1 + 1 + 1 + 1 + 1 + 1 + 1 = n2 := by omega
    refine ExecI.call [] cl ?_ rfl ?_ ?_; (focus simp [-getElem?_pos, s10, ml, hki, hlt, hkp, e4, e5, hput]); (focus simp [-getElem?_pos, z0, z1, z2, s10, ml, hki, hlt, hkp, e4, e5, hput]); simp [-getElem?_pos, z0, z1, z2, s10, ml, hki, hlt, hkp, e4, e5, hput]
    repeat (first | (with_reducible first | refine AWi.seqK fun _ => ?_ | refine AWi.blockK fun _ => ?_ | refine KI.go ?_) | ((first | refine AWi.region tabOk ?_ | refine AWi.condK fun _ _ => ?_); simp [-getElem?_pos, z0, z1, z2, s34, w1, hput, ml, hki, hlt, hkp, e4, e5]) | ((first | refine AWi.ret ?_ | refine AWi.skip ?_ | refine AWi.exit ?_); try simp only [thenP]) | (with_reducible refine BB.go ?_; simp only [blockP, thenP, reduceIte]))
    refine LI.go (k + 1) ⟨by omega, by simp [s10], by simp [s32], by simp [s33], by simp [iD], by simp, fun j hj => ?_, hlt⟩ (by omega)
    simp [show ¬ j = n1 + 1 + 1 + 1 + 1 + 1 + 1 + 1 + 1 + 1 + 1 + 1 + 1 by omega, show ¬ j = n2 + 1 + 1 + 1 + 1 by omega, low j hj]
  · obtain rfl : k = rs.length := by omega
    repeat (first | (with_reducible first | refine AWi.seqK fun _ => ?_ | refine AWi.blockK fun _ => ?_ | refine KI.go ?_) | ((first | refine AWi.region tabOk ?_ | refine AWi.condK fun _ _ => ?_); simp [-getElem?_pos, z0, z1, z2, s10, s32, s33, s34]) | ((first | refine AWi.ret ?_ | refine AWi.skip ?_ | refine AWi.exit ?_); try simp only [thenP]) | (with_reducible refine BB.go ?_; simp only [blockP, thenP, reduceIte]))
    exact RI.ret rfl ⟨⟨n1 + 1 + 1 + 1 + 1 + 1 + 1 + 1 + 1 + 1 + 1 + 1 + 1, 25, by omega, by simp [retV, s10], ml⟩, fun j hj => (low j (by omega)).trans (hlow j hj)⟩
set_option maxRecDepth 100000 in
set_option maxHeartbeats 8000000 in
theorem rows_no (l : List HS) (e g : HE) (n : Nat) (m : Mem) (h : reachE l g e ≠ 0) :
    CWp Try.prog 25 [.d (boxD l), .d (edgD e), .d (edgD g)] n m fun y _ m' => toD4 y = some (.tup [.list [], iD (reachE l g e)]) ∧ ∀ j, j < n → m' j = m j := by
  refine cwpK tabOk Try.func25 rfl rfl (show 3 ≤ _ by decide) rfl fun _ => ?_; simp only [Try.ntmps25]
  repeat (first | (with_reducible first | refine AWi.seqK fun _ => ?_ | refine AWi.blockK fun _ => ?_ | refine KI.go ?_) | ((first | refine AWi.region tabOk ?_ | refine AWi.condK fun _ _ => ?_); simp [-getElem?_pos, z0, z1, z2, z0]) | ((first | refine AWi.ret ?_ | refine AWi.skip ?_ | refine AWi.exit ?_); try simp only [thenP]) | (with_reducible refine BB.go ?_; simp only [blockP, thenP, reduceIte]))
  refine ExecI.callC (checkReach_w l e g _ _) rfl (by simp [calleeS, evList]) ?_
  rintro y n1 m1 ⟨hn1, hm1, hy⟩
  have hlow : ∀ j, j < n → m1 j = m j := fun j hj => (hm1 j (by omega)).trans (by (try dsimp only); repeat (first | rw [setMem_lt (by omega)] | rw [putN_lt (by omega)]))
  by_cases h0 : chkErr l [e, g] = 0
  · rw [if_pos h0] at hy
    have hneed : needN l g e = none := by
      cases hn : needN l g e with
      | none => rfl
      | some k => exact absurd (by rw [reachE, if_pos h0, hn]) h
    rw [hneed] at hy
    subst hy
    have hE : reachE l g e = 13 := by rw [reachE, if_pos h0, hneed]
    simp [-getElem?_pos, z0, z1, z2]
    repeat (first | (with_reducible first | refine AWi.seqK fun _ => ?_ | refine AWi.blockK fun _ => ?_ | refine KI.go ?_) | ((first | refine AWi.region tabOk ?_ | refine AWi.condK fun _ _ => ?_); simp [-getElem?_pos, z0, z1, z2, z0]) | ((first | refine AWi.ret ?_ | refine AWi.skip ?_ | refine AWi.exit ?_); try simp only [thenP]) | (with_reducible refine BB.go ?_; simp only [blockP, thenP, reduceIte]))
    exact RI.ret rfl ⟨by rw [hE]; rfl, hlow⟩
  · rw [if_neg h0] at hy
    subst hy
    have hE : reachE l g e = chkErr l [e, g] := if_neg h0
    simp [-getElem?_pos, z0, z1, z2]
    repeat (first | (with_reducible first | refine AWi.seqK fun _ => ?_ | refine AWi.blockK fun _ => ?_ | refine KI.go ?_) | ((first | refine AWi.region tabOk ?_ | refine AWi.condK fun _ _ => ?_); simp [-getElem?_pos, z0, z1, z2, h0]) | ((first | refine AWi.ret ?_ | refine AWi.skip ?_ | refine AWi.exit ?_); try simp only [thenP]) | (with_reducible refine BB.go ?_; simp only [blockP, thenP, reduceIte]))
    exact RI.ret rfl ⟨by rw [hE]; rfl, hlow⟩
theorem reach_ok {l : List HS} {e g : HE} (h : reachE l g e = 0) : chkErr l [e, g] = 0 ∧ ∃ k, needN l g e = some k := by
  unfold reachE at h
  split at h
  · rename_i h0
    refine ⟨h0, ?_⟩
    cases hn : needN l g e with
    | none => rw [hn] at h; cases h
    | some k => exact ⟨k, rfl⟩
  · rename_i h0
    exact absurd h h0
theorem rowsO_no {l : List HS} {e g : HE} (h : reachE l g e ≠ 0) : rowsO l e g = [] := by
  unfold rowsO
  split
  · rename_i h0
    cases hn : needN l g e with
    | none => rfl
    | some k => exact absurd (by rw [reachE, if_pos h0, hn]) h
  · rfl
theorem rows_c (l : List HS) (e g : HE) : ACall Try.prog 25 [boxD l, edgD e, edgD g] (.tup [.list (listsD (rowsO l e g)), iD (reachE l g e)]) := by
  by_cases h : reachE l g e = 0
  · obtain ⟨h0, k, hneed⟩ := reach_ok h
    obtain ⟨hk1, hk2⟩ := rows_take hneed
    have hO : rowsO l e g = ((rowsG l g).take k).map rowL := by rw [rowsO, if_pos h0, hneed]
    have hk3 : ((rowsO l e g).map intL).length = k := by rw [hO, List.length_map, List.length_map, hk1]
    have e1 : listsD (rowsO l e g) = ((rowsO l e g).map intL).map fun d => [d] := by simp [listsD]
    rw [e1, h]
    refine ACall.ofR (RCall.ofLin (n0 := 0) (by rw [hk3]; omega) (fun d hd => by obtain ⟨L, _, rfl⟩ := List.mem_map.1 hd; rfl) fun n _ => (rows_ok l e g n _ h0 hneed).mono ?_)
    rintro y n' m' ⟨⟨id, ty, q1, q2, q3⟩, q4⟩
    refine ⟨⟨id, ty, q1, by rw [hk3]; exact q2, ?_⟩, q4⟩
    rw [q3, hO]
    have := linS_end ((rowsG l g).take k)
    rw [hk1] at this
    rw [this]
  · rw [rowsO_no h]
    exact ACall.ofR (RCall.of4 (n0 := 0) fun n _ => (rows_no l e g n _ h).mono fun _ _ _ h => ⟨h.1, h.2⟩)
end Go.Proofs.Ytcmkkgdjhjpldaa.Eng

namespace Go.Proofs.Ytcmkkgdjhjpldaa.Eng
variable {P : Program}
theorem own_data {E E2 : Env} {w : World} {id k z : Nat} {ty : TypeId} {rows : List (List Dat)} {fr : Bool} {v : Value} (hv : Rep E w (.own id k z) v) (hm : Holds E w (E.home id) (.row ty z rows fr)) (hk : rows.length = k) (hr : ∀ b, E.ro b → E2.ro b) (hb : E2.ro (E.home id).blk) : Rep E2 w (.d (.list rows)) v := by
  subst hk
  cases hv with
  | own _ _ _ hd hz =>
  cases hm with
  | row _ _ _ _ cur g1 g2 g3 g4 g5 g6 g7 g8 =>
  refine .d _ _ (.list rows _ _ (fun i j => cur.getD (i * z + j) (.int .i64 0)) g4 g5 g7 (fun _ => ⟨_, 0, z, rfl, hb, g6, fun i j hi hj => ?_⟩) fun i j r c hi hj => ?_)
  · have hsz : i * z + j < cur.size := by
      rw [g3]
      exact Nat.lt_of_lt_of_le (Nat.lt_of_lt_of_le (Nat.add_lt_add_left hj _) (by rw [← Nat.succ_mul]; exact Nat.mul_le_mul_right _ hi)) (Nat.mul_le_mul_right _ g4)
    rw [Nat.zero_add, World.cell?]
    simp [g1, Array.getD_eq_getD_getElem?, hsz]
  · have hir := (List.getElem?_eq_some_iff.1 hi).1
    have hjz : j < z := by rw [← g6 r (List.mem_of_getElem? hi)]; exact (List.getElem?_eq_some_iff.1 hj).1
    have hsz : i * z + j < cur.size := by
      rw [g3]
      exact Nat.lt_of_lt_of_le (Nat.lt_of_lt_of_le (Nat.add_lt_add_left hjz _) (by rw [← Nat.succ_mul]; exact Nat.mul_le_mul_right _ hir)) (Nat.mul_le_mul_right _ g4)
    have := g8 i j r c _ hi hj (Array.getElem?_eq_getElem hsz)
    rw [show cur.getD (i * z + j) (.int .i64 0) = cur[i * z + j] by simp [Array.getD_eq_getD_getElem?, hsz]]
    exact this.keep hr fun _ _ => rfl
theorem CWp.shut1 {f : FuncId} {id k z n : Nat} {ty : TypeId} {rows : List (List Dat)} {m : Mem} {Q : SV → Nat → Mem → Prop} (hm : m id = some (.row ty z rows false)) (hk : rows.length = k) (h : CWp P f [.d (.list rows)] n (setMem m id (some (.row ty z rows true))) Q) : CWp P f [.own id k z] n m Q :=
  ⟨h.callable, fun W0 R0 E w vs M h1 h2 => by
    let E2 : Env := { E with ro := fun b => E.ro b ∨ b = (E.home id).blk }
    have hle : E.le E2 := ⟨fun _ h => .inl h, fun _ h => h, fun _ _ => rfl⟩
    have e : ∀ {i b}, setMem m id (some (.row ty z rows true)) i = some b → (i = id ∧ b = .row ty z rows true) ∨ (i ≠ id ∧ m i = some b) := fun {i b} hi => by
      unfold setMem at hi
      split at hi
      · rename_i e; cases hi; exact .inl ⟨e, rfl⟩
      · rename_i e; exact .inr ⟨e, hi⟩
    have M2 : MS W0 R0 (· < n) (setMem m id (some (.row ty z rows true))) E2 w := by
      refine ⟨M.below, fun b hb => .inl (M.ro0 b hb), fun b hb => ?_, fun b hb => ?_, M.dom, fun i b hi => ?_, fun i b hi => ?_, fun i b hi => ?_, fun i b hi => ?_, fun i j b c hi hj hn => ?_⟩
      · rcases hb with hb | rfl
        · exact M.ro1 b hb
        · exact .inr (M.base id _ hm)
      · rcases hb with hb | rfl
        · exact M.rlt b hb
        · exact (M.mem id _ hm).lt
      · rcases e hi with ⟨rfl, rfl⟩ | ⟨_, hi⟩
        · exact M.live _ _ hm
        · exact M.live _ _ hi
      · rcases e hi with ⟨rfl, rfl⟩ | ⟨_, hi⟩
        · have h3 := (M.mem _ _ hm).keep hle (fun _ _ => rfl) rfl
          cases h3 with
          | row _ _ _ _ cur g1 g2 g3 g4 g5 g6 g7 g8 => exact .row _ _ _ _ cur g1 g2 g3 g4 g5 g6 g7 g8
        · exact (M.mem _ _ hi).keep hle (fun _ _ => rfl) rfl
      · rcases e hi with ⟨rfl, rfl⟩ | ⟨_, hi⟩
        · exact M.base _ _ hm
        · exact M.base _ _ hi
      · rcases e hi with ⟨rfl, rfl⟩ | ⟨hne, hi⟩
        · exact ⟨fun _ => .inr rfl, fun _ => rfl⟩
        · refine (M.frz i b hi).trans ⟨.inl, fun h => h.elim (fun h => h) fun h => ?_⟩
          exact absurd h (M.inj i id b _ hi hm hne)
      · rcases e hi with ⟨e1, e2⟩ | ⟨hne, hi2⟩
        · rcases e hj with ⟨e3, e4⟩ | ⟨hne2, hj2⟩
          · exact absurd (e1.trans e3.symm) hn
          · rw [e1]
            exact M.inj id j _ _ hm hj2 (e1 ▸ hn)
        · rcases e hj with ⟨e3, e4⟩ | ⟨hne2, hj2⟩
          · rw [e3]
            exact M.inj i id _ _ hi2 hm (e3 ▸ hn)
          · exact M.inj i j _ _ hi2 hj2 hn
    refine (h.calls W0 R0 E2 w vs M2 (by simpa using h1) fun i x v hx hv => ?_).mono ?_
    · match i with
      | 0 =>
        simp only [List.getElem?_cons_zero, Option.some.injEq] at hx
        subst hx
        exact own_data (h2 0 _ v rfl hv) (M.mem id _ hm) hk (fun _ h => .inl h) (.inr rfl)
      | i + 1 => simp at hx
    · rintro ex w' ⟨v, E', n', m', y, a, b, c, d, e, f⟩
      exact ⟨v, E', n', m', y, a, b, hle.trans c, fun b hb => d b (.inl hb), e, f⟩⟩
end Go.Proofs.Ytcmkkgdjhjpldaa.Eng

noncomputable section
namespace Go.Proofs.Ytcmkkgdjhjpldaa.Eng
open Go.RowKit
def chkNever (l : List HS) (e g : HE) (L : List Int) : Int := if chkErr l [e, g] = 0 then (if rowOfB L then (if proveB l e (firstR g) [rowOfR L, rowOfR L] then 0 else 14) else 3) else chkErr l [e, g]
set_option maxRecDepth 100000 in
set_option maxHeartbeats 8000000 in
theorem checkNever_x (l : List HS) (e g : HE) (L : List Int) (hL : L.length ≤ 1000000) (n : Nat) (m : Mem) :
    CWp Try.prog 34 [.d (boxD l), .d (edgD e), .d (edgD g), .d (intL L)] n m fun y _ m' => (∀ j, j < n → m' j = m j) ∧ y = .d (iD (chkNever l e g L)) := by
  have cb : ACall Try.prog 49 [boxD l, .list [[iD e.depth, iD e.burr], [iD g.depth, iD g.burr]]] (.tup [.agg [boxD (chkB l [e, g])], iD (chkErr l [e, g])]) := check_c l [e, g] (by simp)
  by_cases h0 : chkErr l [e, g] = 0
  · obtain ⟨hb, hes⟩ := chkOk h0
    have ge := goodE (e := e) (by simp at hes; exact hes.1)
    have gg := goodE (e := g) (by simp at hes; exact hes.2)
    have hcb : chkB l [e, g] = l := if_pos h0
    rw [h0, hcb] at cb
    have o1 : ¬ n = n + 1 := by omega
    have o2 : ¬ n + 1 = n := by omega
    have o3 : ¬ n = n + 1 + 1 + 1 + 1 + 1 + 1 := by omega
    refine cwpK tabOk Try.func34 rfl rfl (show 4 ≤ _ by decide) rfl fun _ => ?_; simp only [Try.ntmps34]
    repeat (first | (with_reducible first | refine AWi.seqK fun _ => ?_ | refine AWi.blockK fun _ => ?_ | refine KI.go ?_) | ((first | refine AWi.region tabOk ?_ | refine AWi.condK fun _ _ => ?_); simp [-getElem?_pos, z0, z1, z2, z0]) | ((first | refine AWi.ret ?_ | refine AWi.skip ?_ | refine AWi.exit ?_); try simp only [thenP]) | (with_reducible refine BB.go ?_; simp only [blockP, thenP, reduceIte]))
    refine ExecI.call [n + 1 + 1 + 1 + 1 + 1 + 1] cb ?_ rfl ?_ ?_; (focus simp [-getElem?_pos, ]); (focus simp [-getElem?_pos, z0, z1, z2, ]); simp [-getElem?_pos, z0, z1, z2, ]
    repeat (first | (with_reducible first | refine AWi.seqK fun _ => ?_ | refine AWi.blockK fun _ => ?_ | refine KI.go ?_) | ((first | refine AWi.region tabOk ?_ | refine AWi.condK fun _ _ => ?_); simp [-getElem?_pos, z0, z1, z2, z0]) | ((first | refine AWi.ret ?_ | refine AWi.skip ?_ | refine AWi.exit ?_); try simp only [thenP]) | (with_reducible refine BB.go ?_; simp only [blockP, thenP, reduceIte]))
    refine ExecI.callC (CWp.shut1 (z := 1) (k := 2) (id := n + 1 + 1 + 1 + 1 + 1 + 1 + 1 + 1 + 1 + 1 + 1 + 1 + 1 + 1 + 1 + 1 + 1 + 1) (ty := 25) (rows := listsD [L, L]) (by simp [listsD]) (by rfl) (rowsOf_w [L, L] (by simpa using hL) (by simp) _ _)) rfl (by simp [calleeS, evList]) ?_
    rintro y n1 m1 ⟨hm1, hy⟩
    have hall : [L, L].all rowOfB = rowOfB L := by simp
    rw [hall] at hy
    rcases hB : rowOfB L
    · rw [hB] at hy
      have hE : chkNever l e g L = 3 := by rw [chkNever, if_pos h0, hB]; rfl
      obtain rfl : y = .tup [.nilS, .d (bD false)] := by simpa using hy
      simp [-getElem?_pos, z0, z1, z2]
      repeat (first | (with_reducible first | refine AWi.seqK fun _ => ?_ | refine AWi.blockK fun _ => ?_ | refine KI.go ?_) | ((first | refine AWi.region tabOk ?_ | refine AWi.condK fun _ _ => ?_); simp [-getElem?_pos, z0, z1, z2, z0]) | ((first | refine AWi.ret ?_ | refine AWi.skip ?_ | refine AWi.exit ?_); try simp only [thenP]) | (with_reducible refine BB.go ?_; simp only [blockP, thenP, reduceIte]))
      exact RI.ret rfl ⟨fun j hj => (hm1 j (by omega)).trans (by (try dsimp only); repeat (first | rw [setMem_lt (by omega)] | rw [putN_lt (by omega)])), by rw [hE]; rfl⟩
    · rw [hB] at hy
      simp only [if_true] at hy
      obtain ⟨id, i1, i2, rfl, i3⟩ := hy
      simp [-getElem?_pos, z0, z1, z2]
      repeat (first | (with_reducible first | refine AWi.seqK fun _ => ?_ | refine AWi.blockK fun _ => ?_ | refine KI.go ?_) | ((first | refine AWi.region tabOk ?_ | refine AWi.condK fun _ _ => ?_); simp [-getElem?_pos, z0, z1, z2, z0]) | ((first | refine AWi.ret ?_ | refine AWi.skip ?_ | refine AWi.exit ?_); try simp only [thenP]) | (with_reducible refine BB.go ?_; simp only [blockP, thenP, reduceIte]))
      have hlow : ∀ j, j < n → m1 j = m j := fun j hj => (hm1 j (by omega)).trans (by (try dsimp only); repeat (first | rw [setMem_lt (by omega)] | rw [putN_lt (by omega)]))
      have me : m1 n = some (.box 24 [.d (iD e.depth), .d (iD e.burr)] false) := (hm1 n (by omega)).trans (by simp [show ¬ n = n + 1 + 1 + 1 + 1 + 1 + 1 by omega, show ¬ n = n + 1 + 1 + 1 + 1 + 1 + 1 + 1 + 1 + 1 + 1 + 1 + 1 + 1 + 1 + 1 + 1 + 1 + 1 by omega])
      have mg : m1 (n + 1) = some (.box 24 [.d (iD g.depth), .d (iD g.burr)] false) := (hm1 (n + 1) (by omega)).trans (by simp)
      have mb : m1 (n + 1 + 1 + 1 + 1 + 1 + 1 + 1 + 1 + 1 + 1 + 1) = some (.box 65 [.d (boxD l)] false) := (hm1 (n + 1 + 1 + 1 + 1 + 1 + 1 + 1 + 1 + 1 + 1 + 1) (by omega)).trans (by simp)
      have hpe : chkNever l e g L = if proveB l e (firstR g) [rowOfR L, rowOfR L] then 0 else 14 := by rw [chkNever, if_pos h0, if_pos hB]
      have q1 : n < n1 + 1 + 1 + 1 + 1 + 1 + 1 + 1 := by omega
      have q2 : n + 1 < n1 + 1 + 1 + 1 + 1 + 1 + 1 + 1 := by omega
      have q3 : n + 1 + 1 + 1 + 1 + 1 + 1 + 1 + 1 + 1 + 1 + 1 < n1 + 1 + 1 + 1 + 1 + 1 + 1 + 1 := by omega
      refine AWi.drawsM mixedH 5 (by kernel_rfl) (by kernel_rfl) (by kernel_rfl) ?_
      simp only [List.take_succ_cons, List.take_zero]
      repeat (with_reducible refine ExecV.auto tabOk ?_; simp [-getElem?_pos, z0, z1, z2, kindV, isPure, me, mg, mb, q1, q2, q3]; try (refine And.intro (OkV_old (by simp; try omega) (by omega) (by simp [AllAcc])) ?_))
      refine ExecV.callP [] (reaches_n g _ _) (by omega) (fun i hi => by cases hi) rfl (by simp [calleeS, evList]) (OkV_old (by simp) (by omega) (by simp [AllAcc])) ?_
      repeat (with_reducible refine ExecV.auto tabOk ?_; simp [-getElem?_pos, z0, z1, z2, kindV, isPure, me, mg, mb, q1, q2, q3]; try (refine And.intro (OkV_old (by simp; try omega) (by omega) (by simp [AllAcc])) ?_))
      refine ⟨_, stepI_call (svs := [.agg [.d (boxD l)], .agg [.d (iD e.depth), .d (iD e.burr)], reachF (n1 + 1 + 1 + 1 + 1 + 1 + 1 + 1), .own id ([L, L].map rowOfR).length 7]) (by simp [calleeS, evList]) (prove_w l hb.all hb.n2 g gg e ge ([L, L].map rowOfR) (fun r hr => by obtain ⟨L, _, rfl⟩ := List.mem_map.1 hr; exact rowOfR_ok L) (by simp) (n1 + 1 + 1 + 1 + 1 + 1 + 1 + 1) (n1 + 1 + 1 + 1 + 1 + 1 + 1 + 1 + 1 + 1 + 1 + 1) id _ (by omega) ⟨false, by simp⟩ (by omega) (z := false) (by (try dsimp only); repeat (first | rw [setMem_lt (by omega)] | rw [putN_lt (by omega)]); exact i3)), ?_⟩
      rintro n2 s2 ⟨y, m', ⟨hm2, rfl⟩, rfl⟩
      simp only [restO, List.drop_succ_cons, List.drop_zero, List.map_cons, List.map_nil, shiftO]
      repeat (with_reducible refine ExecV.auto tabOk ?_; simp [-getElem?_pos, z0, z1, z2, kindV, isPure, z0]; try (refine And.intro (OkV_old (by simp; try omega) (by omega) (by simp [AllAcc])) ?_))
      unfold ExecV
      simp only [thenP]
      rcases hP : proveB l e (firstR g) [rowOfR L, rowOfR L]
      · repeat (first | (with_reducible first | refine AWi.seqK fun _ => ?_ | refine AWi.blockK fun _ => ?_ | refine KI.go ?_) | ((first | refine AWi.region tabOk ?_ | refine AWi.condK fun _ _ => ?_); simp [-getElem?_pos, z0, z1, z2, z0]) | ((first | refine AWi.ret ?_ | refine AWi.skip ?_ | refine AWi.exit ?_); try simp only [thenP]) | (with_reducible refine BB.go ?_; simp only [blockP, thenP, reduceIte]))
        exact RI.ret rfl ⟨fun j hj => (hm2 j (by omega)).trans (by (try dsimp only); repeat (first | rw [setMem_lt (by omega)] | rw [putN_lt (by omega)]); exact hlow j hj), by rw [hpe, hP]; rfl⟩
      · repeat (first | (with_reducible first | refine AWi.seqK fun _ => ?_ | refine AWi.blockK fun _ => ?_ | refine KI.go ?_) | ((first | refine AWi.region tabOk ?_ | refine AWi.condK fun _ _ => ?_); simp [-getElem?_pos, z0, z1, z2, z0]) | ((first | refine AWi.ret ?_ | refine AWi.skip ?_ | refine AWi.exit ?_); try simp only [thenP]) | (with_reducible refine BB.go ?_; simp only [blockP, thenP, reduceIte]))
        exact RI.ret rfl ⟨fun j hj => (hm2 j (by omega)).trans (by (try dsimp only); repeat (first | rw [setMem_lt (by omega)] | rw [putN_lt (by omega)]); exact hlow j hj), by rw [hpe, hP]; rfl⟩
  · have hE : chkNever l e g L = chkErr l [e, g] := if_neg h0
    generalize chkErr l [e, g] = er at *
    generalize chkB l [e, g] = bb at *
    refine cwpK tabOk Try.func34 rfl rfl (show 4 ≤ _ by decide) rfl fun _ => ?_; simp only [Try.ntmps34]
    repeat (first | (with_reducible first | refine AWi.seqK fun _ => ?_ | refine AWi.blockK fun _ => ?_ | refine KI.go ?_) | ((first | refine AWi.region tabOk ?_ | refine AWi.condK fun _ _ => ?_); simp [-getElem?_pos, z0, z1, z2, z0]) | ((first | refine AWi.ret ?_ | refine AWi.skip ?_ | refine AWi.exit ?_); try simp only [thenP]) | (with_reducible refine BB.go ?_; simp only [blockP, thenP, reduceIte]))
    refine ExecI.call [n + 1 + 1 + 1 + 1 + 1 + 1] cb ?_ rfl ?_ ?_; (focus simp [-getElem?_pos, ]); (focus simp [-getElem?_pos, z0, z1, z2, ]); simp [-getElem?_pos, z0, z1, z2, ]
    repeat (first | (with_reducible first | refine AWi.seqK fun _ => ?_ | refine AWi.blockK fun _ => ?_ | refine KI.go ?_) | ((first | refine AWi.region tabOk ?_ | refine AWi.condK fun _ _ => ?_); simp [-getElem?_pos, z0, z1, z2, h0]) | ((first | refine AWi.ret ?_ | refine AWi.skip ?_ | refine AWi.exit ?_); try simp only [thenP]) | (with_reducible refine BB.go ?_; simp only [blockP, thenP, reduceIte]))
    exact RI.ret rfl ⟨fun j hj => by (try dsimp only); repeat (first | rw [setMem_lt (by omega)] | rw [putN_lt (by omega)]), by rw [hE]; rfl⟩
theorem checkNever_c (l : List HS) (e g : HE) (L : List Int) (hL : L.length ≤ 1000000) : ACall Try.prog 34 [boxD l, edgD e, edgD g, intL L] (iD (chkNever l e g L)) :=
  ACall.ofR (RCall.of (n0 := 0) fun n _ => (checkNever_x l e g L hL n _).mono fun _ _ _ h => ⟨h.2, h.1⟩)
end Go.Proofs.Ytcmkkgdjhjpldaa.Eng
