/-
  HoneSpares returns true, for every box, edge and goal: which stones can be given away, and with which ones some fewest strokes end, are what the definitions say, or the error. No condition.
-/
import Derived.Test.YtcmkkgdjhjpldaaDl7
set_option linter.unusedSimpArgs false
set_option linter.unusedVariables false
noncomputable section
namespace Go.Proofs.Ytcmkkgdjhjpldaa.Eng
open Go.RowKit
set_option maxRecDepth 100000
set_option maxHeartbeats 16000000
structure Bits (on : List Int) (N : Nat) (P : Nat → Prop) : Prop where
  len : on.length = N
  val : ∀ j, j < N → (on[j]? = some 1 ∧ P j) ∨ (on[j]? = some 0 ∧ ¬ P j)
theorem Bits.congr {on : List Int} {N : Nat} {P Q : Nat → Prop} (h : Bits on N P) (hQ : ∀ j, j < N → (Q j ↔ P j)) : Bits on N Q :=
  ⟨h.len, fun j hj => by rw [hQ j hj]; exact h.val j hj⟩
theorem Bits.set {on : List Int} {N : Nat} {P Q : Nat → Prop} (h : Bits on N P) {j0 : Nat} (h0 : j0 < N) (hQ : ∀ j, j < N → (Q j ↔ P j ∨ j = j0)) : Bits (on.set j0 1) N Q := by
  refine ⟨by rw [List.length_set]; exact h.len, fun j hj => ?_⟩
  rw [hQ j hj, List.getElem?_set]
  by_cases e : j0 = j
  · subst e
    rw [if_pos rfl, if_pos (by rw [h.len]; exact h0)]
    exact .inl ⟨rfl, .inr rfl⟩
  · rw [if_neg e]
    rcases h.val j hj with ⟨a, b⟩ | ⟨a, b⟩
    · exact .inl ⟨a, .inl b⟩
    · exact .inr ⟨a, fun hh => hh.elim b fun e2 => e e2.symm⟩
theorem Bits.zero {N : Nat} {P : Nat → Prop} (h : ∀ j, j < N → ¬ P j) : Bits (List.replicate N 0) N P :=
  ⟨by simp, fun j hj => .inr ⟨by simp [hj], h j hj⟩⟩
theorem lv_le {l : List HS} {g e y : HE} {k K : Nat} (hK : needN l g e = some K) (h : Lv l g e k y) : k ≤ K ∧ (k = K → y = e) := by
  induction h with
  | top h => rw [hK] at h; cases h; exact ⟨Nat.le_refl _, fun _ => rfl⟩
  | step _ _ _ _ ih => exact ⟨by omega, fun _ => by omega⟩
theorem lv_cases {l : List HS} {g e y : HE} {k : Nat} (h : Lv l g e k y) : needN l g e = some k ∧ y = e ∨ ∃ (y' : HE) (i : Nat) (s : HS), Lv l g e (k + 1) y' ∧ l[i]? = some s ∧ canS s y' = true ∧ needN l g (strE s y') = some k ∧ y = strE s y' := by
  cases h with
  | top h => exact .inl ⟨h, rfl⟩
  | step h1 h2 h3 h4 => exact .inr ⟨_, _, _, h1, h2, h3, h4, rfl⟩
def SubL (l : List HS) (g e : HE) (n i p : Nat) (y : HE) : Prop := Lv l g e (n + 1) (ixE i) ∧ ∃ s, l[p]? = some s ∧ canS s (ixE i) = true ∧ y = strE s (ixE i) ∧ needN l g y = some n
def OnP (l : List HS) (g e : HE) (n i q j : Nat) : Prop := (∃ k, n + 1 ≤ k ∧ Lv l g e k (ixE j)) ∨ ∃ i' p, i' < 707 ∧ (i' < i ∨ i' = i ∧ p < q) ∧ SubL l g e n i' p (ixE j)
def FinL (l : List HS) (g e : HE) (st : Nat) : Prop := ∃ x s, Lv l g e 1 x ∧ l[st]? = some s ∧ canS s x = true ∧ needN l g (strE s x) = some 0
def EndP (l : List HS) (g e : HE) (n i q st : Nat) : Prop := n = 0 ∧ ∃ i', i' < 707 ∧ (i' < i ∨ i' = i ∧ st < q) ∧ ∃ y, SubL l g e 0 i' st y
theorem on_start {l : List HS} {g e : HE} (n j : Nat) : OnP l g e n 0 0 j ↔ ∃ k, n + 1 ≤ k ∧ Lv l g e k (ixE j) := by
  constructor
  · rintro (h | ⟨i', p, -, h, -⟩)
    · exact h
    · omega
  · exact .inl
theorem on_end {l : List HS} (hl : l.all okS = true) {g e : HE} (ge : GoodE e) {K n j : Nat} (hK : needN l g e = some K) (hn : n + 1 ≤ K) : OnP l g e n 707 0 j ↔ ∃ k, n ≤ k ∧ Lv l g e k (ixE j) := by
  constructor
  · rintro (⟨k, h1, h2⟩ | ⟨i', p, -, -, h1, s, h2, h3, h4, h5⟩)
    · exact ⟨k, by omega, h2⟩
    · refine ⟨n, Nat.le_refl _, ?_⟩
      rw [h4]
      exact .step h1 h2 h3 (by rw [← h4]; exact h5)
  · rintro ⟨k, h1, h2⟩
    by_cases hk : n + 1 ≤ k
    · exact .inl ⟨k, hk, h2⟩
    · obtain rfl : k = n := by omega
      rcases lv_cases h2 with ⟨h, -⟩ | ⟨y, i, st, h3, h4, h5, h6, h7⟩
      · rw [hK] at h; cases h; omega
      · obtain ⟨q1, q2, -⟩ := ixE_of (h3.good hl ge)
        refine .inr ⟨_, i, q1, .inl q1, ?_, st, h4, ?_, ?_, ?_⟩
        · rw [q2]; exact h3
        · rw [q2]; exact h5
        · rw [q2]; exact h7
        · rw [h7]; exact h6
theorem fin_end {l : List HS} (hl : l.all okS = true) {g e : HE} (ge : GoodE e) (st : Nat) : EndP l g e 0 707 0 st ↔ FinL l g e st := by
  constructor
  · rintro ⟨-, i', -, -, y, h1, s, h2, h3, h4, h5⟩
    exact ⟨_, s, h1, h2, h3, by rw [← h4]; exact h5⟩
  · rintro ⟨x, s, h1, h2, h3, h4⟩
    obtain ⟨q1, q2, -⟩ := ixE_of (h1.good hl ge)
    refine ⟨rfl, _, q1, .inl q1, _, ?_, s, h2, ?_, rfl, ?_⟩
    · rw [q2]; exact h1
    · rw [q2]; exact h3
    · rw [q2]; exact h4
theorem on_row {l : List HS} {g e : HE} {n i j : Nat} : OnP l g e n (i + 1) 0 j ↔ OnP l g e n i l.length j := by
  constructor
  · rintro (h | ⟨i', p, h0, h1, h2⟩)
    · exact .inl h
    · refine .inr ⟨i', p, h0, ?_, h2⟩
      obtain ⟨-, s, hs, -⟩ := h2
      have := (List.getElem?_eq_some_iff.1 hs).1
      omega
  · rintro (h | ⟨i', p, h0, h1, h2⟩)
    · exact .inl h
    · exact .inr ⟨i', p, h0, by omega, h2⟩
theorem end_row {l : List HS} {g e : HE} {n i st : Nat} : EndP l g e n (i + 1) 0 st ↔ EndP l g e n i l.length st := by
  constructor
  · rintro ⟨h, i', h0, h1, y, h2⟩
    refine ⟨h, i', h0, ?_, y, h2⟩
    obtain ⟨-, s, hs, -⟩ := h2
    have := (List.getElem?_eq_some_iff.1 hs).1
    omega
  · rintro ⟨h, i', h0, h1, y, h2⟩
    exact ⟨h, i', h0, by omega, y, h2⟩
theorem on_skip {l : List HS} {g e : HE} {n i j : Nat} (h : ¬ Lv l g e (n + 1) (ixE i)) : OnP l g e n (i + 1) 0 j ↔ OnP l g e n i 0 j := by
  constructor
  · rintro (h1 | ⟨i', p, h0, h1, h2⟩)
    · exact .inl h1
    · refine .inr ⟨i', p, h0, ?_, h2⟩
      have : i' ≠ i := fun e => h (by rw [← e]; exact h2.1)
      omega
  · rintro (h1 | ⟨i', p, h0, h1, h2⟩)
    · exact .inl h1
    · exact .inr ⟨i', p, h0, by omega, h2⟩
theorem end_skip {l : List HS} {g e : HE} {n i st : Nat} (h : ¬ Lv l g e (n + 1) (ixE i)) : EndP l g e n (i + 1) 0 st ↔ EndP l g e n i 0 st := by
  constructor
  · rintro ⟨hn, i', h0, h1, y, h2⟩
    refine ⟨hn, i', h0, ?_, y, h2⟩
    subst hn
    have : i' ≠ i := fun e => h (by rw [← e]; exact h2.1)
    omega
  · rintro ⟨hn, i', h0, h1, y, h2⟩
    exact ⟨hn, i', h0, by omega, y, h2⟩
theorem on_pass {l : List HS} {g e : HE} {n i q j : Nat} (h : ∀ y, ¬ SubL l g e n i q y) : OnP l g e n i (q + 1) j ↔ OnP l g e n i q j := by
  constructor
  · rintro (h1 | ⟨i', p, h0, h1, h2⟩)
    · exact .inl h1
    · refine .inr ⟨i', p, h0, ?_, h2⟩
      rcases h1 with h1 | ⟨rfl, h1⟩
      · exact .inl h1
      · have : p ≠ q := fun e => h _ (by rw [← e]; exact h2)
        exact .inr ⟨rfl, by omega⟩
  · rintro (h1 | ⟨i', p, h0, h1, h2⟩)
    · exact .inl h1
    · exact .inr ⟨i', p, h0, by omega, h2⟩
theorem end_pass {l : List HS} {g e : HE} {n i q st : Nat} (h : ∀ y, ¬ SubL l g e n i q y) : EndP l g e n i (q + 1) st ↔ EndP l g e n i q st := by
  constructor
  · rintro ⟨hn, i', h0, h1, y, h2⟩
    refine ⟨hn, i', h0, ?_, y, h2⟩
    subst hn
    rcases h1 with h1 | ⟨rfl, h1⟩
    · exact .inl h1
    · have : st ≠ q := fun e => h _ (by rw [← e]; exact h2)
      exact .inr ⟨rfl, by omega⟩
  · rintro ⟨hn, i', h0, h1, y, h2⟩
    exact ⟨hn, i', h0, by omega, y, h2⟩
theorem on_hit {l : List HS} {g e : HE} {n i q j m : Nat} (hi : i < 707) {x : HE} (h : SubL l g e n i q x) (hx : ixE m = x) (hm : m < 707) (hj : j < 707) : OnP l g e n i (q + 1) j ↔ OnP l g e n i q j ∨ j = m := by
  have hone : ∀ y, SubL l g e n i q y → y = x := by
    rintro y ⟨-, s, h1, -, h2, -⟩
    obtain ⟨-, s', h1', -, h2', -⟩ := h
    rw [h1] at h1'
    cases h1'
    rw [h2, h2']
  have hinj : ixE j = ixE m → j = m := fun e => by
    simp only [ixE, HE.mk.injEq] at e
    omega
  constructor
  · rintro (h1 | ⟨i', p, h0, h1, h2⟩)
    · exact .inl (.inl h1)
    · rcases h1 with h1 | ⟨rfl, h1⟩
      · exact .inl (.inr ⟨i', p, h0, .inl h1, h2⟩)
      · by_cases e : p = q
        · subst e
          exact .inr (hinj (by rw [hx, hone _ h2]))
        · exact .inl (.inr ⟨i', p, h0, .inr ⟨rfl, by omega⟩, h2⟩)
  · rintro ((h1 | ⟨i', p, h0, h1, h2⟩) | rfl)
    · exact .inl h1
    · exact .inr ⟨i', p, h0, by omega, h2⟩
    · exact .inr ⟨i, q, hi, .inr ⟨rfl, by omega⟩, by rw [hx]; exact h⟩
theorem end_hit {l : List HS} {g e : HE} {i q st : Nat} (hi : i < 707) {x : HE} (h : SubL l g e 0 i q x) : EndP l g e 0 i (q + 1) st ↔ EndP l g e 0 i q st ∨ st = q := by
  constructor
  · rintro ⟨hn, i', h0, h1, y, h2⟩
    rcases h1 with h1 | ⟨rfl, h1⟩
    · exact .inl ⟨hn, i', h0, .inl h1, y, h2⟩
    · by_cases e : st = q
      · exact .inr e
      · exact .inl ⟨hn, i', h0, .inr ⟨rfl, by omega⟩, y, h2⟩
  · rintro (⟨hn, i', h0, h1, y, h2⟩ | rfl)
    · exact ⟨hn, i', h0, by omega, y, h2⟩
    · exact ⟨rfl, i, hi, .inr ⟨rfl, by omega⟩, x, h⟩
theorem endsO_eq {l : List HS} {e g : HE} (h0 : chkErr l [e, g] = 0) {K : Nat} (hn : needN l g e = some K) {P : Nat → Bool} (hP : ∀ st, st < l.length → (P st = true ↔ FinL l g e st)) : endsO l e g = ((List.range l.length).filter P).map fun i : Nat => (i : Int) := by
  obtain ⟨hb, -⟩ := chkOk h0
  have n2 := hb.n2
  have hE : endsO l e g = ((List.range 6).filter fun i => decide (i ∈ endsG l ((rowsG l g).take K) K [e])).map fun i : Nat => (i : Int) := by rw [endsO, if_pos h0, hn]
  have hm : ∀ st : Nat, st < 6 → (st ∈ endsG l ((rowsG l g).take K) K [e] ↔ FinL l g e st) := by
    intro st hst
    cases K with
    | zero =>
      constructor
      · intro h
        simp [endsG] at h
      · rintro ⟨x, s, h1, -⟩
        have := (lv_le hn h1).1
        omega
    | succ k => exact endsO_mem h0 hn st
  rw [hE]
  refine congrArg (List.map _) ?_
  rw [show 6 = l.length + (6 - l.length) by omega, List.range_add, List.filter_append]
  rw [show ((List.range (6 - l.length)).map (l.length + ·)).filter (fun i => decide (i ∈ endsG l ((rowsG l g).take K) K [e])) = [] from by
    rw [List.filter_eq_nil_iff]
    intro i hi
    obtain ⟨j, hj, rfl⟩ := List.mem_map.1 hi
    rw [List.mem_range] at hj
    rw [decide_eq_true_eq, hm _ (by omega)]
    rintro ⟨x, s, -, h2, -⟩
    have := (List.getElem?_eq_some_iff.1 h2).1
    omega, List.append_nil]
  refine List.filter_congr fun i hi => ?_
  rw [List.mem_range] at hi
  rw [Bool.eq_iff_iff, decide_eq_true_eq, hm i (by omega), hP i hi]
theorem refEnds_c (l : List HS) (e g : HE) : ACall Try.prog 39 [boxD l, edgD e, edgD g] (.tup [intL (endsO l e g), iD (reachE l g e)]) := by
  have ca := refAsked_c l e g
  by_cases h0 : chkErr l [e, g] = 0
  · obtain ⟨hb, hes⟩ := chkOk h0
    have gg := goodE (e := g) (by simp at hes; exact hes.2)
    have ge := goodE (e := e) (by simp at hes; exact hes.1)
    have hl := hb.all
    have n1 := hb.n1
    have n2 := hb.n2
    rw [h0] at ca
    have h00 : chkErr l [g, g] = 0 := by rw [chk_dup]; exact (chk_goal h0).1
    have cn := refNeeds_c l hb g gg h00
    rw [show (List.range 707).map (needV l g) = needsL l g from rfl] at cn
    have hat : (needsL l g)[(7 * e.depth + e.burr).toNat]? = some (fewI l g e) := by
      rw [needs_at ge]
      unfold fewI
      cases needN l g e <;> rfl
    have hixe := (ixE_of ge).2.1
    obtain ⟨ed, eb⟩ := e
    have u1 := ge.d0; have u2 := ge.d1; have u3 := ge.b0; have u4 := ge.b1
    simp only at u1 u2 u3 u4 hat hixe
    obtain ⟨D, rfl⟩ := Int.eq_ofNat_of_zero_le u1
    obtain ⟨B, rfl⟩ := Int.eq_ofNat_of_zero_le u3
    obtain ⟨m, hm⟩ : ∃ m, m = 7 * D + B := ⟨_, rfl⟩
    have wa : IntKind.i64.wrap (7 * (D : Int)) = 7 * (D : Int) := wrap64_in (by omega)
    have wb : IntKind.i64.wrap (7 * (D : Int) + (B : Int)) = (m : Int) := by rw [wrap64_in (by omega)]; omega
    have hm7 : m < 707 := by omega
    have hm7i : (m : Int) < 707 := by omega
    rw [show (7 * (D : Int) + (B : Int)).toNat = m by omega] at hat hixe
    have hnl := needsL_len l g
    cases hn : needN l g ⟨(D : Int), (B : Int)⟩ with
    | none =>
      have hre : reachE l g ⟨(D : Int), (B : Int)⟩ = 13 := by rw [reachE, if_pos h0, hn]
      have hBo : endsO l ⟨(D : Int), (B : Int)⟩ g = [] := by rw [endsO, if_pos h0, hn]
      rw [hre, hBo]
      rw [show fewI l g ⟨(D : Int), (B : Int)⟩ = -1 by rw [fewI, hn]] at hat
      refine acallK tabOk Try.func39 rfl rfl (show 3 ≤ _ by decide) rfl fun _ => ?_; simp only [Try.ntmps39]
      repeat (first | (with_reducible first | refine zq1 fun _ => ?_ | refine zq2 fun _ => ?_ | refine zq3 ?_) | ((first | refine zq4 ?_ | refine zq5 fun _ _ => ?_ | refine zq6 ?_); simp [-getElem?_pos, z0, z1, z2, z0]) | ((first | refine AWp.ret ?_ | refine AWp.skip ?_ | refine AWp.exit ?_); try simp only [thenP]) | (with_reducible refine zq7 ?_; simp only [blockP, thenP, reduceIte]) | with_reducible refine zq8 ?_)
      (first | refine Exec0.call [] ca ?_ rfl ?_ ?_ | refine Exec.call [] ca ?_ rfl ?_ ?_); (focus simp [-getElem?_pos, z0]); (focus simp [-getElem?_pos, z0, z1, z2, z0]); simp [-getElem?_pos, z0, z1, z2, z0]
      repeat (first | (with_reducible first | refine zq1 fun _ => ?_ | refine zq2 fun _ => ?_ | refine zq3 ?_) | ((first | refine zq4 ?_ | refine zq5 fun _ _ => ?_ | refine zq6 ?_); simp [-getElem?_pos, z0, z1, z2, z0]) | ((first | refine AWp.ret ?_ | refine AWp.skip ?_ | refine AWp.exit ?_); try simp only [thenP]) | (with_reducible refine zq7 ?_; simp only [blockP, thenP, reduceIte]) | with_reducible refine zq8 ?_)
      (first | refine Exec0.call [] cn ?_ rfl ?_ ?_ | refine Exec.call [] cn ?_ rfl ?_ ?_); (focus simp [-getElem?_pos, z0]); (focus simp [-getElem?_pos, z0, z1, z2, z0]); simp [-getElem?_pos, z0, z1, z2, z0]
      repeat (first | (with_reducible first | refine zq1 fun _ => ?_ | refine zq2 fun _ => ?_ | refine zq3 ?_) | ((first | refine zq4 ?_ | refine zq5 fun _ _ => ?_ | refine zq6 ?_); simp [-getElem?_pos, z0, z1, z2, wa, wb, hm7, hm7i, hat, hnl]) | ((first | refine AWp.ret ?_ | refine AWp.skip ?_ | refine AWp.exit ?_); try simp only [thenP]) | (with_reducible refine zq7 ?_; simp only [blockP, thenP, reduceIte]) | with_reducible refine zq8 ?_)
      (first | refine RR.ret ?_ | refine RR.normal ?_); simp [z0]
    | some K =>
      rw [show fewI l g ⟨(D : Int), (B : Int)⟩ = (K : Int) by rw [fewI, hn]] at hat
      have hre : reachE l g ⟨(D : Int), (B : Int)⟩ = 0 := by rw [reachE, if_pos h0, hn]
      rw [hre]
      have hk0 : ¬ (K : Int) < 0 := by omega
      have hK8 := (rows_take hn).2
      have hEq := fun {P : Nat → Bool} h => endsO_eq (P := P) h0 hn h
      generalize endsO l ⟨(D : Int), (B : Int)⟩ g = E at *
      have f8 : 8 * (l.length : Int) ≤ 140737488355328 := by omega
      have f9 : (l.length : Int) ≤ 9223372036854775807 := by omega
      have hb0 : Bits ((List.replicate 707 0).set m 1) 707 (fun j => ∃ k, K ≤ k ∧ Lv l g ⟨(D : Int), (B : Int)⟩ k (ixE j)) :=
        (Bits.zero (P := fun _ => False) fun _ _ h => h).set hm7 fun j hj => by
          constructor
          · rintro ⟨k, h1, h2⟩
            have h3 := lv_le hn h2
            have h4 := h3.2 (by omega)
            refine .inr ?_
            rw [← hixe] at h4
            simp only [ixE, HE.mk.injEq] at h4
            omega
          · rintro (h | rfl)
            · exact h.elim
            · exact ⟨K, Nat.le_refl _, by rw [hixe]; exact .top hn⟩
      have he0 : Bits (List.replicate l.length 0) l.length (fun st => K = 0 ∧ FinL l g ⟨(D : Int), (B : Int)⟩ st) := Bits.zero fun j hj h => by
        obtain ⟨hz, x, s, h1, -⟩ := h
        have := (lv_le hn h1).1
        omega
      have hR0 : iRows ((List.replicate 707 (0 : Int)).set m 1) = (List.replicate 707 [iD 0]).set m [iD 1] := by simp [iRows]
      have hR1 : iRows (List.replicate l.length (0 : Int)) = List.replicate l.length [iD 0] := by simp [iRows]
      obtain ⟨on0, hon0⟩ : ∃ on0, on0 = (List.replicate 707 (0 : Int)).set m 1 := ⟨_, rfl⟩
      obtain ⟨en0, hen0⟩ : ∃ en0, en0 = List.replicate l.length (0 : Int) := ⟨_, rfl⟩
      rw [← hon0] at hR0 hb0
      rw [← hen0] at hR1 he0
      refine acallK tabOk Try.func39 rfl rfl (show 3 ≤ _ by decide) rfl fun _ => ?_; simp only [Try.ntmps39]
      repeat (first | (with_reducible first | refine zq1 fun _ => ?_ | refine zq2 fun _ => ?_ | refine zq3 ?_) | ((first | refine zq4 ?_ | refine zq5 fun _ _ => ?_ | refine zq6 ?_); simp [-getElem?_pos, z0, z1, z2, z0]) | ((first | refine AWp.ret ?_ | refine AWp.skip ?_ | refine AWp.exit ?_); try simp only [thenP]) | (with_reducible refine zq7 ?_; simp only [blockP, thenP, reduceIte]) | with_reducible refine zq8 ?_)
      (first | refine Exec0.call [] ca ?_ rfl ?_ ?_ | refine Exec.call [] ca ?_ rfl ?_ ?_); (focus simp [-getElem?_pos, z0]); (focus simp [-getElem?_pos, z0, z1, z2, z0]); simp [-getElem?_pos, z0, z1, z2, z0]
      repeat (first | (with_reducible first | refine zq1 fun _ => ?_ | refine zq2 fun _ => ?_ | refine zq3 ?_) | ((first | refine zq4 ?_ | refine zq5 fun _ _ => ?_ | refine zq6 ?_); simp [-getElem?_pos, z0, z1, z2, z0]) | ((first | refine AWp.ret ?_ | refine AWp.skip ?_ | refine AWp.exit ?_); try simp only [thenP]) | (with_reducible refine zq7 ?_; simp only [blockP, thenP, reduceIte]) | with_reducible refine zq8 ?_)
      (first | refine Exec0.call [] cn ?_ rfl ?_ ?_ | refine Exec.call [] cn ?_ rfl ?_ ?_); (focus simp [-getElem?_pos, z0]); (focus simp [-getElem?_pos, z0, z1, z2, z0]); simp [-getElem?_pos, z0, z1, z2, z0]
      repeat (first | (with_reducible first | refine zq1 fun _ => ?_ | refine zq2 fun _ => ?_ | refine zq3 ?_) | ((first | refine zq4 ?_ | refine zq5 fun _ _ => ?_ | refine zq6 ?_); simp [-getElem?_pos, z0, z1, z2, wa, wb, hm7, hm7i, hat, hnl, hk0, f8, f9, -List.reduceReplicate]) | ((first | refine AWp.ret ?_ | refine AWp.skip ?_ | refine AWp.exit ?_); try simp only [thenP]) | (with_reducible refine zq7 ?_; simp only [blockP, thenP, reduceIte]) | with_reducible refine zq8 ?_)
      refine AWp.loopK (ι := { q : Nat × List Int × List Int // q.1 ≤ K ∧ Bits q.2.1 707 (fun j => ∃ k, q.1 ≤ k ∧ Lv l g ⟨(D : Int), (B : Int)⟩ k (ixE j)) ∧ Bits q.2.2 l.length (fun st => q.1 = 0 ∧ FinL l g ⟨(D : Int), (B : Int)⟩ st) }) (n := 2) (fun q => [(0, .d (boxD l)), (8, .d (intL (needsL l g))), (9, .d (iD (q.1.1 : Nat))), (10, .own 0 707 1), (11, .own 1 l.length 1)]) (fun q => [(0, .row 3 1 (iRows q.1.2.1) false), (1, .row 3 1 (iRows q.1.2.2) false)]) (fun q => q.1.1) ⟨(K, on0, en0), Nat.le_refl _, hb0, he0⟩ [25, 38] ?_ ?_
      · refine ⟨by rfl, by simp [-List.reduceReplicate], ?_, by decide⟩
        simp [or_imp, forall_and, -List.reduceReplicate, hR0, hR1]
      rintro ⟨⟨n, on, en⟩, hnK, hon, hen⟩ kb
      simp only at hnK hon hen ⊢
      cases n with
      | zero =>
        have hfin : ∀ st, st < l.length → ((decide (en[st]? = some 1)) = true ↔ FinL l g ⟨(D : Int), (B : Int)⟩ st) := fun st hst => by
          rw [decide_eq_true_eq]
          rcases hen.val st hst with ⟨a, -, b⟩ | ⟨a, b⟩
          · exact ⟨fun _ => b, fun _ => a⟩
          · rw [a]
            exact ⟨fun h => by simp at h, fun h => absurd ⟨rfl, h⟩ b⟩
        have hE := hEq hfin
        have hel := hen.len
        clear hEq
        obtain ⟨S, hS⟩ : ∃ S : Nat → List Int, S = fun i => ((List.range i).filter fun st => decide (en[st]? = some 1)).map fun i : Nat => (i : Int) := ⟨_, rfl⟩
        have hlenS : ∀ i, (S i).length ≤ i := fun i => by
          rw [hS, List.length_map]
          exact Nat.le_trans (List.length_filter_le _ _) (by simp)
        have hnextS : ∀ i, S (i + 1) = if en[i]? = some 1 then S i ++ [(i : Int)] else S i := fun i => by
          simp only [hS]
          rw [List.range_succ, List.filter_append, List.map_append]
          by_cases h : en[i]? = some 1 <;> simp [h]
        have hS0 : S 0 = [] := by rw [hS]; rfl
        have hES : E = S l.length := by rw [hS]; exact hE
        clear hS hE
        repeat (first | (with_reducible first | refine zq1 fun _ => ?_ | refine zq2 fun _ => ?_ | refine zq3 ?_) | ((first | refine zq4 ?_ | refine zq5 fun _ _ => ?_ | refine zq6 ?_); simp [-getElem?_pos, z0, z1, z2, z0]) | ((first | refine AWp.ret ?_ | refine AWp.skip ?_ | refine AWp.exit ?_); try simp only [thenP]) | (with_reducible refine zq7 ?_; simp only [blockP, thenP, reduceIte]) | with_reducible refine zq8 ?_)
        refine AWp.loopK (ι := { i : Nat // i ≤ l.length }) (n := 2) (fun i => [(0, .d (boxD l)), (11, .own 0 l.length 1), (16, gS 1 1 (iRows (S i.1))), (17, .d (iD i.1))]) (fun i => (0, .row 3 1 (iRows en) false) :: gM 1 3 1 (iRows (S i.1))) (fun i => l.length - i.1) ⟨0, Nat.zero_le _⟩ [1, 2] ?_ ?_
        · refine ⟨by rfl, by simp [iRows, hS0], by simp [or_imp, forall_and, iRows, hS0] <;> (try (intro _hne; simp [_hne])), by decide⟩
        rintro ⟨i, hi⟩ kk
        have w1 : IntKind.i64.wrap ((i : Int) + 1) = (i : Int) + 1 := wrap64_in (by omega)
        have hlen := hlenS i
        have hnext := hnextS i
        have hSr := iRows_len (S i)
        by_cases hlt : i < l.length
        · have hii : (i : Int) < l.length := by omega
          have hv := hen.val i hlt
          obtain hRS | ⟨r, o, hRS⟩ : iRows (S i) = [] ∨ ∃ r o, iRows (S i) = r :: o := by
            cases iRows (S i) with
            | nil => exact .inl rfl
            | cons r o => exact .inr ⟨r, o, rfl⟩
          · rcases hv with ⟨hv, -⟩ | ⟨hv, -⟩
            · rw [if_pos hv] at hnext
              have hSq : iRows (S (i + 1)) = iRows (S i) ++ [[iD (i : Int)]] := by rw [hnext]; simp [iRows]
              repeat (first | (with_reducible first | refine zq1 fun _ => ?_ | refine zq2 fun _ => ?_ | refine zq3 ?_) | ((first | refine zq4 ?_ | refine zq5 fun _ _ => ?_ | refine zq6 ?_); simp [-getElem?_pos, z0, z1, z2, hii, hlt, hv, w1, hRS, hel]) | ((first | refine AWp.ret ?_ | refine AWp.skip ?_ | refine AWp.exit ?_); try simp only [thenP]) | (with_reducible refine zq7 ?_; simp only [blockP, thenP, reduceIte]) | with_reducible refine zq8 ?_)
              refine LL.go ⟨i + 1, hlt⟩ [0, 14] ⟨by rfl, by simp [hSq, hRS], by simp [or_imp, forall_and, hSq, hRS] <;> (try (intro _hne; simp [_hne])), by decide⟩ ?_
              simp; omega
            · rw [if_neg (by rw [hv]; simp)] at hnext
              repeat (first | (with_reducible first | refine zq1 fun _ => ?_ | refine zq2 fun _ => ?_ | refine zq3 ?_) | ((first | refine zq4 ?_ | refine zq5 fun _ _ => ?_ | refine zq6 ?_); simp [-getElem?_pos, z0, z1, z2, hii, hlt, hv, w1, hRS, hel]) | ((first | refine AWp.ret ?_ | refine AWp.skip ?_ | refine AWp.exit ?_); try simp only [thenP]) | (with_reducible refine zq7 ?_; simp only [blockP, thenP, reduceIte]) | with_reducible refine zq8 ?_)
              refine LL.go ⟨i + 1, hlt⟩ [0, 1] ⟨by rfl, by simp [hnext, hRS], by simp [or_imp, forall_and, hnext, hRS] <;> (try (intro _hne; simp [_hne])), by decide⟩ ?_
              simp; omega
          · rw [hRS] at hSr
            simp at hSr
            have f1 : fitsB (o.length + 1 + 1) 8 = true := fitsB_small (by omega) (by omega)
            rcases hv with ⟨hv, -⟩ | ⟨hv, -⟩
            · rw [if_pos hv] at hnext
              have hSq : iRows (S (i + 1)) = iRows (S i) ++ [[iD (i : Int)]] := by rw [hnext]; simp [iRows]
              repeat (first | (with_reducible first | refine zq1 fun _ => ?_ | refine zq2 fun _ => ?_ | refine zq3 ?_) | ((first | refine zq4 ?_ | refine zq5 fun _ _ => ?_ | refine zq6 ?_); simp [-getElem?_pos, z0, z1, z2, hii, hlt, hv, w1, hRS, hel, f1]) | ((first | refine AWp.ret ?_ | refine AWp.skip ?_ | refine AWp.exit ?_); try simp only [thenP]) | (with_reducible refine zq7 ?_; simp only [blockP, thenP, reduceIte]) | with_reducible refine zq8 ?_)
              refine LL.go ⟨i + 1, hlt⟩ [0, 14] ⟨by rfl, by simp [hSq, hRS], by simp [or_imp, forall_and, hSq, hRS] <;> (try (intro _hne; simp [_hne])), by decide⟩ ?_
              simp; omega
            · rw [if_neg (by rw [hv]; simp)] at hnext
              repeat (first | (with_reducible first | refine zq1 fun _ => ?_ | refine zq2 fun _ => ?_ | refine zq3 ?_) | ((first | refine zq4 ?_ | refine zq5 fun _ _ => ?_ | refine zq6 ?_); simp [-getElem?_pos, z0, z1, z2, hii, hlt, hv, w1, hRS, hel]) | ((first | refine AWp.ret ?_ | refine AWp.skip ?_ | refine AWp.exit ?_); try simp only [thenP]) | (with_reducible refine zq7 ?_; simp only [blockP, thenP, reduceIte]) | with_reducible refine zq8 ?_)
              refine LL.go ⟨i + 1, hlt⟩ [0, 1] ⟨by rfl, by simp [hnext, hRS], by simp [or_imp, forall_and, hnext, hRS] <;> (try (intro _hne; simp [_hne])), by decide⟩ ?_
              simp; omega
        · obtain rfl : i = l.length := by omega
          rw [← hES] at *
          rcases hR : iRows E with _ | ⟨r, o⟩
          · rw [hR] at hSr
            have hE0 : E = [] := List.length_eq_zero_iff.1 (by simpa using hSr.symm)
            repeat (first | (with_reducible first | refine zq1 fun _ => ?_ | refine zq2 fun _ => ?_ | refine zq3 ?_) | ((first | refine zq4 ?_ | refine zq5 fun _ _ => ?_ | refine zq6 ?_); simp [-getElem?_pos, z0, z1, z2, hlt, hR]) | ((first | refine AWp.ret ?_ | refine AWp.skip ?_ | refine AWp.exit ?_); try simp only [thenP]) | (with_reducible refine zq7 ?_; simp only [blockP, thenP, reduceIte]) | with_reducible refine zq8 ?_)
            (first | refine RR.ret ?_ | refine RR.normal ?_); simp [hE0]
          · repeat (first | (with_reducible first | refine zq1 fun _ => ?_ | refine zq2 fun _ => ?_ | refine zq3 ?_) | ((first | refine zq4 ?_ | refine zq5 fun _ _ => ?_ | refine zq6 ?_); simp [-getElem?_pos, z0, z1, z2, hlt, hR]) | ((first | refine AWp.ret ?_ | refine AWp.skip ?_ | refine AWp.exit ?_); try simp only [thenP]) | (with_reducible refine zq7 ?_; simp only [blockP, thenP, reduceIte]) | with_reducible refine zq8 ?_)
            (first | refine RR.ret ?_ | refine RR.normal ?_); simp [intL, hR]
      | succ n =>
        have hnp : (0 : Int) < (n : Int) + 1 := by omega
        have wn : IntKind.i64.wrap (n : Int) = (n : Int) := wrap64_in (by omega)
        have hon0 : Bits on 707 (OnP l g ⟨(D : Int), (B : Int)⟩ n 0 0) := hon.congr fun j _ => on_start n j
        have hen0 : Bits en l.length (EndP l g ⟨(D : Int), (B : Int)⟩ n 0 0) := hen.congr fun st _ => by
          constructor
          · rintro ⟨-, i', -, h, -⟩; omega
          · rintro ⟨h, -⟩; omega
        repeat (first | (with_reducible first | refine zq1 fun _ => ?_ | refine zq2 fun _ => ?_ | refine zq3 ?_) | ((first | refine zq4 ?_ | refine zq5 fun _ _ => ?_ | refine zq6 ?_); simp [-getElem?_pos, z0, z1, z2, hnp]) | ((first | refine AWp.ret ?_ | refine AWp.skip ?_ | refine AWp.exit ?_); try simp only [thenP]) | (with_reducible refine zq7 ?_; simp only [blockP, thenP, reduceIte]) | with_reducible refine zq8 ?_)
        refine AWp.loopK (ι := { q : Nat × List Int × List Int // q.1 ≤ 707 ∧ Bits q.2.1 707 (OnP l g ⟨(D : Int), (B : Int)⟩ n q.1 0) ∧ Bits q.2.2 l.length (EndP l g ⟨(D : Int), (B : Int)⟩ n q.1 0) }) (n := 2) (fun q => [(0, .d (boxD l)), (8, .d (intL (needsL l g))), (9, .d (iD ((n : Int) + 1))), (10, .own 0 707 1), (11, .own 1 l.length 1), (12, .d (iD q.1.1))]) (fun q => [(0, .row 3 1 (iRows q.1.2.1) false), (1, .row 3 1 (iRows q.1.2.2) false)]) (fun q => 707 - q.1.1) ⟨(0, on, en), Nat.zero_le _, hon0, hen0⟩ [0, 1] ?_ ?_
        · refine ⟨by rfl, by simp [z0], by simp [or_imp, forall_and, z0] <;> (try (intro _hne; simp [_hne])), by decide⟩
        rintro ⟨⟨i, on1, en1⟩, hi, hon1, hen1⟩ kc
        simp only at hi hon1 hen1 ⊢
        have wi : IntKind.i64.wrap ((i : Int) + 1) = (i : Int) + 1 := wrap64_in (by omega)
        by_cases hlt : i < 707
        · have hii : (i : Int) < 707 := by omega
          have hol := hon1.len
          have hel := hen1.len
          by_cases hLv : Lv l g ⟨(D : Int), (B : Int)⟩ (n + 1) (ixE i)
          · have hoi : on1[i]? = some 1 := (hon1.val i hlt).elim (fun h => h.1) fun h => absurd (show OnP l g ⟨(D : Int), (B : Int)⟩ n i 0 i from .inl ⟨n + 1, Nat.le_refl _, hLv⟩) h.2
            have hneed := hLv.need
            have hni : (needsL l g)[i]? = some ((n : Int) + 1) := by
              rw [needsL]
              simp [hlt, needV, hneed]
            obtain ⟨d, hd⟩ : ∃ d, d = i / 7 := ⟨_, rfl⟩
            obtain ⟨b, hbb⟩ : ∃ b, b = i % 7 := ⟨_, rfl⟩
            have q1 : (i : Int).tdiv 7 = (d : Int) := by rw [Int.tdiv_eq_ediv_of_nonneg (by omega)]; omega
            have q2 : (i : Int).tmod 7 = (b : Int) := by rw [Int.tmod_eq_emod_of_nonneg (by omega)]; omega
            have q3 : IntKind.i64.wrap (d : Int) = (d : Int) := wrap64_in (by omega)
            have hix : ixE i = ⟨d, b⟩ := by rw [ixE, ← hd, ← hbb]
            have hge := ixE_good hlt
            rw [hix] at hge
            repeat (first | (with_reducible first | refine zq1 fun _ => ?_ | refine zq2 fun _ => ?_ | refine zq3 ?_) | ((first | refine zq4 ?_ | refine zq5 fun _ _ => ?_ | refine zq6 ?_); simp [-getElem?_pos, z0, z1, z2, hii]) | ((first | refine AWp.ret ?_ | refine AWp.skip ?_ | refine AWp.exit ?_); try simp only [thenP]) | (with_reducible refine zq7 ?_; simp only [blockP, thenP, reduceIte]) | with_reducible refine zq8 ?_)
            refine AWp.loopK (ι := { q : Nat × List Int × List Int // q.1 ≤ l.length ∧ Bits q.2.1 707 (OnP l g ⟨(D : Int), (B : Int)⟩ n i q.1) ∧ Bits q.2.2 l.length (EndP l g ⟨(D : Int), (B : Int)⟩ n i q.1) }) (n := 2) (fun q => [(0, .d (boxD l)), (8, .d (intL (needsL l g))), (9, .d (iD ((n : Int) + 1))), (10, .own 0 707 1), (11, .own 1 l.length 1), (12, .d (iD i)), (13, .d (iD q.1.1))]) (fun q => [(0, .row 3 1 (iRows q.1.2.1) false), (1, .row 3 1 (iRows q.1.2.2) false)]) (fun q => l.length - q.1.1) ⟨(0, on1, en1), Nat.zero_le _, hon1, hen1⟩ [0, 1] ?_ ?_
            · refine ⟨by rfl, by simp [z0], by simp [or_imp, forall_and, z0] <;> (try (intro _hne; simp [_hne])), by decide⟩
            rintro ⟨⟨q, on2, en2⟩, hq, hon2, hen2⟩ kd
            simp only at hq hon2 hen2 ⊢
            have w4 : IntKind.i64.wrap ((q : Int) + 1) = (q : Int) + 1 := wrap64_in (by omega)
            have hoi2 : on2[i]? = some 1 := (hon2.val i hlt).elim (fun h => h.1) fun h => absurd (show OnP l g ⟨(D : Int), (B : Int)⟩ n i q i from .inl ⟨n + 1, Nat.le_refl _, hLv⟩) h.2
            have hol2 := hon2.len
            have hel2 := hen2.len
            by_cases hql : q < l.length
            · have hqi : (q : Int) < l.length := by omega
              have hq1 : q + 1 ≤ l.length := hql
              obtain ⟨st, hst⟩ : ∃ st, l[q]? = some st := ⟨_, List.getElem?_eq_getElem hql⟩
              have gst := goodS hl hst
              have cs := refStroke_c st ⟨d, b⟩ gst hge
              rcases hc : canS st ⟨d, b⟩
              · rw [hc] at cs
                have hno : ∀ y, ¬ SubL l g ⟨(D : Int), (B : Int)⟩ n i q y := by
                  rintro y ⟨-, s2, h1, h2, -⟩
                  rw [hst] at h1
                  cases h1
                  rw [hix, hc] at h2
                  cases h2
                repeat (first | (with_reducible first | refine zq1 fun _ => ?_ | refine zq2 fun _ => ?_ | refine zq3 ?_) | ((first | refine zq4 ?_ | refine zq5 fun _ _ => ?_ | refine zq6 ?_); simp [-getElem?_pos, z0, z1, z2, hql, hqi, hoi2, hni, hol2, hnl, hlt, hii, hst, q1, q2, q3]) | ((first | refine AWp.ret ?_ | refine AWp.skip ?_ | refine AWp.exit ?_); try simp only [thenP]) | (with_reducible refine zq7 ?_; simp only [blockP, thenP, reduceIte]) | with_reducible refine zq8 ?_)
                (first | refine Exec0.call [] cs ?_ rfl ?_ ?_ | refine Exec.call [] cs ?_ rfl ?_ ?_); (focus simp [-getElem?_pos, q1, q2, q3]); (focus simp [-getElem?_pos, z0, z1, z2, q1, q2, q3]); simp [-getElem?_pos, z0, z1, z2, q1, q2, q3]
                repeat (first | (with_reducible first | refine zq1 fun _ => ?_ | refine zq2 fun _ => ?_ | refine zq3 ?_) | ((first | refine zq4 ?_ | refine zq5 fun _ _ => ?_ | refine zq6 ?_); simp [-getElem?_pos, z0, z1, z2, w4]) | ((first | refine AWp.ret ?_ | refine AWp.skip ?_ | refine AWp.exit ?_); try simp only [thenP]) | (with_reducible refine zq7 ?_; simp only [blockP, thenP, reduceIte]) | with_reducible refine zq8 ?_)
                refine LL.go ⟨(q + 1, on2, en2), hq1, hon2.congr fun j _ => on_pass hno, hen2.congr fun j _ => end_pass hno⟩ [0, 1] ⟨by rfl, by simp [], by simp [or_imp, forall_and, ] <;> (try (intro _hne; simp [_hne])), by decide⟩ ?_
                simp; omega
              · have hgs := GoodE.str gst hge hc
                have hR : strR st ⟨d, b⟩ = strE st ⟨d, b⟩ := by rw [strR, hc]; rfl
                rw [hc, hR] at cs
                obtain ⟨e2, he2⟩ : ∃ e2, e2 = strE st ⟨d, b⟩ := ⟨_, rfl⟩
                have hone : ∀ y, SubL l g ⟨(D : Int), (B : Int)⟩ n i q y → y = e2 ∧ needN l g e2 = some n := by
                  rintro y ⟨-, s2, h1, -, h2, h3⟩
                  rw [hst] at h1
                  cases h1
                  rw [hix, ← he2] at h2
                  exact ⟨h2, by rw [← h2]; exact h3⟩
                have hyes : needN l g e2 = some n → SubL l g ⟨(D : Int), (B : Int)⟩ n i q e2 := fun h => ⟨hLv, st, hst, by rw [hix]; exact hc, by rw [hix]; exact he2, h⟩
                have hat2 : (needsL l g)[(7 * e2.depth + e2.burr).toNat]? = some (fewI l g e2) := by
                  rw [needs_at (by rw [he2]; exact hgs)]
                  unfold fewI
                  cases needN l g e2 <;> rfl
                have hfe : fewI l g e2 = (n : Int) ↔ needN l g e2 = some n := few_eq
                have hix2 := (ixE_of (e := e2) (by rw [he2]; exact hgs)).2.1
                rw [← he2] at cs hgs
                generalize fewI l g e2 = y at *
                obtain ⟨e3, e4⟩ := e2
                have v1 := hgs.d0; have v2 := hgs.d1; have v3 := hgs.b0; have v4 := hgs.b1
                simp only at v1 v2 v3 v4 hat2 hix2
                obtain ⟨D3, rfl⟩ := Int.eq_ofNat_of_zero_le v1
                obtain ⟨B3, rfl⟩ := Int.eq_ofNat_of_zero_le v3
                obtain ⟨m3, hm3⟩ : ∃ m3, m3 = 7 * D3 + B3 := ⟨_, rfl⟩
                have x1 : IntKind.i64.wrap (7 * (D3 : Int)) = 7 * (D3 : Int) := wrap64_in (by omega)
                have x2 : IntKind.i64.wrap (7 * (D3 : Int) + (B3 : Int)) = (m3 : Int) := by rw [wrap64_in (by omega)]; omega
                have x3 : m3 < 707 := by omega
                have x3i : (m3 : Int) < 707 := by omega
                rw [show (7 * (D3 : Int) + (B3 : Int)).toNat = m3 by omega] at hat2 hix2
                by_cases hyy : y = (n : Int)
                · have hsub := hyes (hfe.1 hyy)
                  obtain ⟨y3, hy3⟩ : ∃ y3, on2[m3]? = some y3 := ⟨_, List.getElem?_eq_getElem (by rw [hol2]; exact x3)⟩
                  obtain ⟨y4, hy4⟩ : ∃ y4, en2[q]? = some y4 := ⟨_, List.getElem?_eq_getElem (by rw [hel2]; exact hql)⟩
                  have hon3 : Bits (on2.set m3 1) 707 (OnP l g ⟨(D : Int), (B : Int)⟩ n i (q + 1)) := hon2.set x3 fun j hj => on_hit hlt hsub hix2 x3 hj
                  by_cases hz : n = 0
                  · have hz1 : (n : Int) + 1 = 1 := by omega
                    have hz2 : IntKind.i64.wrap 0 = 0 := by decide
                    have hen3 : Bits (en2.set q 1) l.length (EndP l g ⟨(D : Int), (B : Int)⟩ n i (q + 1)) := hen2.set hql fun j hj => by
                      subst hz
                      exact end_hit hlt hsub
                    repeat (first | (with_reducible first | refine zq1 fun _ => ?_ | refine zq2 fun _ => ?_ | refine zq3 ?_) | ((first | refine zq4 ?_ | refine zq5 fun _ _ => ?_ | refine zq6 ?_); simp [-getElem?_pos, z0, z1, z2, hql, hqi, hoi2, hni, hol2, hnl, hlt, hii, hst, q1, q2, q3]) | ((first | refine AWp.ret ?_ | refine AWp.skip ?_ | refine AWp.exit ?_); try simp only [thenP]) | (with_reducible refine zq7 ?_; simp only [blockP, thenP, reduceIte]) | with_reducible refine zq8 ?_)
                    (first | refine Exec0.call [] cs ?_ rfl ?_ ?_ | refine Exec.call [] cs ?_ rfl ?_ ?_); (focus simp [-getElem?_pos, q1, q2, q3]); (focus simp [-getElem?_pos, z0, z1, z2, q1, q2, q3]); simp [-getElem?_pos, z0, z1, z2, q1, q2, q3]
                    repeat (first | (with_reducible first | refine zq1 fun _ => ?_ | refine zq2 fun _ => ?_ | refine zq3 ?_) | ((first | refine zq4 ?_ | refine zq5 fun _ _ => ?_ | refine zq6 ?_); simp [-getElem?_pos, z0, z1, z2, w4, x1, x2, x3, x3i, hat2, hyy, wn, hnl, hol2, hel2, hql, hqi, hz, hz1, hz2, hy3, hy4]) | ((first | refine AWp.ret ?_ | refine AWp.skip ?_ | refine AWp.exit ?_); try simp only [thenP]) | (with_reducible refine zq7 ?_; simp only [blockP, thenP, reduceIte]) | with_reducible refine zq8 ?_)
                    refine LL.go ⟨(q + 1, on2.set m3 1, en2.set q 1), hq1, hon3, hen3⟩ [0, 1] ⟨by rfl, by simp [iRows, hz1], by simp [or_imp, forall_and, iRows, hz1] <;> (try (intro _hne; simp [_hne])), by decide⟩ ?_
                    simp; omega
                  · have hz1 : ¬ (n : Int) + 1 = 1 := by omega
                    have hz2 : ¬ (n : Int) = 0 := by omega
                    have hen3 : Bits en2 l.length (EndP l g ⟨(D : Int), (B : Int)⟩ n i (q + 1)) := hen2.congr fun j hj => by
                      constructor
                      · rintro ⟨h, -⟩; exact absurd h hz
                      · rintro ⟨h, -⟩; exact absurd h hz
                    repeat (first | (with_reducible first | refine zq1 fun _ => ?_ | refine zq2 fun _ => ?_ | refine zq3 ?_) | ((first | refine zq4 ?_ | refine zq5 fun _ _ => ?_ | refine zq6 ?_); simp [-getElem?_pos, z0, z1, z2, hql, hqi, hoi2, hni, hol2, hnl, hlt, hii, hst, q1, q2, q3]) | ((first | refine AWp.ret ?_ | refine AWp.skip ?_ | refine AWp.exit ?_); try simp only [thenP]) | (with_reducible refine zq7 ?_; simp only [blockP, thenP, reduceIte]) | with_reducible refine zq8 ?_)
                    (first | refine Exec0.call [] cs ?_ rfl ?_ ?_ | refine Exec.call [] cs ?_ rfl ?_ ?_); (focus simp [-getElem?_pos, q1, q2, q3]); (focus simp [-getElem?_pos, z0, z1, z2, q1, q2, q3]); simp [-getElem?_pos, z0, z1, z2, q1, q2, q3]
                    repeat (first | (with_reducible first | refine zq1 fun _ => ?_ | refine zq2 fun _ => ?_ | refine zq3 ?_) | ((first | refine zq4 ?_ | refine zq5 fun _ _ => ?_ | refine zq6 ?_); simp [-getElem?_pos, z0, z1, z2, w4, x1, x2, x3, x3i, hat2, hyy, wn, hnl, hol2, hel2, hql, hqi, hz, hz1, hz2, hy3, hy4]) | ((first | refine AWp.ret ?_ | refine AWp.skip ?_ | refine AWp.exit ?_); try simp only [thenP]) | (with_reducible refine zq7 ?_; simp only [blockP, thenP, reduceIte]) | with_reducible refine zq8 ?_)
                    refine LL.go ⟨(q + 1, on2.set m3 1, en2), hq1, hon3, hen3⟩ [0, 1] ⟨by rfl, by simp [iRows], by simp [or_imp, forall_and, iRows] <;> (try (intro _hne; simp [_hne])), by decide⟩ ?_
                    simp; omega
                · have hno : ∀ z, ¬ SubL l g ⟨(D : Int), (B : Int)⟩ n i q z := fun z hz => hyy (hfe.2 (hone z hz).2)
                  repeat (first | (with_reducible first | refine zq1 fun _ => ?_ | refine zq2 fun _ => ?_ | refine zq3 ?_) | ((first | refine zq4 ?_ | refine zq5 fun _ _ => ?_ | refine zq6 ?_); simp [-getElem?_pos, z0, z1, z2, hql, hqi, hoi2, hni, hol2, hnl, hlt, hii, hst, q1, q2, q3]) | ((first | refine AWp.ret ?_ | refine AWp.skip ?_ | refine AWp.exit ?_); try simp only [thenP]) | (with_reducible refine zq7 ?_; simp only [blockP, thenP, reduceIte]) | with_reducible refine zq8 ?_)
                  (first | refine Exec0.call [] cs ?_ rfl ?_ ?_ | refine Exec.call [] cs ?_ rfl ?_ ?_); (focus simp [-getElem?_pos, q1, q2, q3]); (focus simp [-getElem?_pos, z0, z1, z2, q1, q2, q3]); simp [-getElem?_pos, z0, z1, z2, q1, q2, q3]
                  repeat (first | (with_reducible first | refine zq1 fun _ => ?_ | refine zq2 fun _ => ?_ | refine zq3 ?_) | ((first | refine zq4 ?_ | refine zq5 fun _ _ => ?_ | refine zq6 ?_); simp [-getElem?_pos, z0, z1, z2, w4, x1, x2, x3, x3i, hat2, hyy, wn, hnl]) | ((first | refine AWp.ret ?_ | refine AWp.skip ?_ | refine AWp.exit ?_); try simp only [thenP]) | (with_reducible refine zq7 ?_; simp only [blockP, thenP, reduceIte]) | with_reducible refine zq8 ?_)
                  refine LL.go ⟨(q + 1, on2, en2), hq1, hon2.congr fun j _ => on_pass hno, hen2.congr fun j _ => end_pass hno⟩ [0, 1] ⟨by rfl, by simp [], by simp [or_imp, forall_and, ] <;> (try (intro _hne; simp [_hne])), by decide⟩ ?_
                  simp; omega
            · obtain rfl : q = l.length := by omega
              repeat (first | (with_reducible first | refine zq1 fun _ => ?_ | refine zq2 fun _ => ?_ | refine zq3 ?_) | ((first | refine zq4 ?_ | refine zq5 fun _ _ => ?_ | refine zq6 ?_); simp [-getElem?_pos, z0, z1, z2, hql, hol2, wi]) | ((first | refine AWp.ret ?_ | refine AWp.skip ?_ | refine AWp.exit ?_); try simp only [thenP]) | (with_reducible refine zq7 ?_; simp only [blockP, thenP, reduceIte]) | with_reducible refine zq8 ?_)
              refine LL.go ⟨(i + 1, on2, en2), hlt, hon2.congr fun j _ => on_row, hen2.congr fun j _ => end_row⟩ [0, 1] ⟨by rfl, by simp [], by simp [or_imp, forall_and, ] <;> (try (intro _hne; simp [_hne])), by decide⟩ ?_
              simp; omega
          · have hon2 : Bits on1 707 (OnP l g ⟨(D : Int), (B : Int)⟩ n (i + 1) 0) := hon1.congr fun j _ => on_skip hLv
            have hen2 : Bits en1 l.length (EndP l g ⟨(D : Int), (B : Int)⟩ n (i + 1) 0) := hen1.congr fun j _ => end_skip hLv
            have hpos : (0 : Int) < l.length := by omega
            have hposn : 0 < l.length := by omega
            have hni : (needsL l g)[i]? = some (needV l g i) := by rw [needsL]; simp [hlt]
            rcases hon1.val i hlt with ⟨hoi, hP⟩ | ⟨hoi, -⟩
            · have hnv : ¬ needV l g i = (n : Int) + 1 := fun h => by
                have hneed : needN l g (ixE i) = some (n + 1) := by
                  unfold needV at h
                  cases hq : needN l g (ixE i) with
                  | none => rw [hq] at h; simp only at h; omega
                  | some k =>
                    rw [hq] at h
                    simp only at h
                    congr 1
                    omega
                rcases hP with ⟨k, h1, h2⟩ | ⟨i', p, -, -, h2⟩
                · have := h2.need
                  rw [hneed] at this
                  cases this
                  exact hLv h2
                · have := h2.2
                  obtain ⟨s2, -, -, -, h3⟩ := this
                  rw [hneed] at h3
                  cases h3
              generalize needV l g i = v at *
              repeat (first | (with_reducible first | refine zq1 fun _ => ?_ | refine zq2 fun _ => ?_ | refine zq3 ?_) | ((first | refine zq4 ?_ | refine zq5 fun _ _ => ?_ | refine zq6 ?_); simp [-getElem?_pos, z0, z1, z2, hii]) | ((first | refine AWp.ret ?_ | refine AWp.skip ?_ | refine AWp.exit ?_); try simp only [thenP]) | (with_reducible refine zq7 ?_; simp only [blockP, thenP, reduceIte]) | with_reducible refine zq8 ?_)
              refine AWp.loopK (ι := Unit) (n := 2) (fun q => [(0, .d (boxD l)), (8, .d (intL (needsL l g))), (9, .d (iD ((n : Int) + 1))), (10, .own 0 707 1), (11, .own 1 l.length 1), (12, .d (iD i)), (13, .d (iD 0))]) (fun q => [(0, .row 3 1 (iRows on1) false), (1, .row 3 1 (iRows en1) false)]) (fun q => 0) () [0, 1] ?_ ?_
              · refine ⟨by rfl, by simp [z0], by simp [or_imp, forall_and, z0] <;> (try (intro _hne; simp [_hne])), by decide⟩
              rintro ⟨⟩ kd
              repeat (first | (with_reducible first | refine zq1 fun _ => ?_ | refine zq2 fun _ => ?_ | refine zq3 ?_) | ((first | refine zq4 ?_ | refine zq5 fun _ _ => ?_ | refine zq6 ?_); simp [-getElem?_pos, z0, z1, z2, hpos, hposn, hoi, hni, hol, hnl, hlt, hii, hnv, wi]) | ((first | refine AWp.ret ?_ | refine AWp.skip ?_ | refine AWp.exit ?_); try simp only [thenP]) | (with_reducible refine zq7 ?_; simp only [blockP, thenP, reduceIte]) | with_reducible refine zq8 ?_)
              refine LL.go ⟨(i + 1, on1, en1), hlt, hon2, hen2⟩ [0, 1] ⟨by rfl, by simp [], by simp [or_imp, forall_and, ] <;> (try (intro _hne; simp [_hne])), by decide⟩ ?_
              simp; omega
            · repeat (first | (with_reducible first | refine zq1 fun _ => ?_ | refine zq2 fun _ => ?_ | refine zq3 ?_) | ((first | refine zq4 ?_ | refine zq5 fun _ _ => ?_ | refine zq6 ?_); simp [-getElem?_pos, z0, z1, z2, hii]) | ((first | refine AWp.ret ?_ | refine AWp.skip ?_ | refine AWp.exit ?_); try simp only [thenP]) | (with_reducible refine zq7 ?_; simp only [blockP, thenP, reduceIte]) | with_reducible refine zq8 ?_)
              refine AWp.loopK (ι := Unit) (n := 2) (fun q => [(0, .d (boxD l)), (8, .d (intL (needsL l g))), (9, .d (iD ((n : Int) + 1))), (10, .own 0 707 1), (11, .own 1 l.length 1), (12, .d (iD i)), (13, .d (iD 0))]) (fun q => [(0, .row 3 1 (iRows on1) false), (1, .row 3 1 (iRows en1) false)]) (fun q => 0) () [0, 1] ?_ ?_
              · refine ⟨by rfl, by simp [z0], by simp [or_imp, forall_and, z0] <;> (try (intro _hne; simp [_hne])), by decide⟩
              rintro ⟨⟩ kd
              repeat (first | (with_reducible first | refine zq1 fun _ => ?_ | refine zq2 fun _ => ?_ | refine zq3 ?_) | ((first | refine zq4 ?_ | refine zq5 fun _ _ => ?_ | refine zq6 ?_); simp [-getElem?_pos, z0, z1, z2, hpos, hposn, hoi, hni, hol, hnl, hlt, hii, wi]) | ((first | refine AWp.ret ?_ | refine AWp.skip ?_ | refine AWp.exit ?_); try simp only [thenP]) | (with_reducible refine zq7 ?_; simp only [blockP, thenP, reduceIte]) | with_reducible refine zq8 ?_)
              refine LL.go ⟨(i + 1, on1, en1), hlt, hon2, hen2⟩ [0, 1] ⟨by rfl, by simp [], by simp [or_imp, forall_and, ] <;> (try (intro _hne; simp [_hne])), by decide⟩ ?_
              simp; omega
        · obtain rfl : i = 707 := by omega
          have hol := hon1.len
          have hel := hen1.len
          have hon2 : Bits on1 707 (fun j => ∃ k, n ≤ k ∧ Lv l g ⟨(D : Int), (B : Int)⟩ k (ixE j)) := hon1.congr fun j _ => (on_end hl ge hn hnK).symm
          have hen2 : Bits en1 l.length (fun st => n = 0 ∧ FinL l g ⟨(D : Int), (B : Int)⟩ st) := hen1.congr fun st _ => by
            constructor
            · rintro ⟨rfl, h⟩; exact (fin_end hl ge st).2 h
            · rintro h
              have h0 := h.1
              subst h0
              exact ⟨rfl, (fin_end hl ge st).1 h⟩
          repeat (first | (with_reducible first | refine zq1 fun _ => ?_ | refine zq2 fun _ => ?_ | refine zq3 ?_) | ((first | refine zq4 ?_ | refine zq5 fun _ _ => ?_ | refine zq6 ?_); simp [-getElem?_pos, z0, z1, z2, hol, wn]) | ((first | refine AWp.ret ?_ | refine AWp.skip ?_ | refine AWp.exit ?_); try simp only [thenP]) | (with_reducible refine zq7 ?_; simp only [blockP, thenP, reduceIte]) | with_reducible refine zq8 ?_)
          refine LL.go ⟨(n, on1, en1), by omega, hon2, hen2⟩ [0, 1] ⟨by rfl, by simp [], by simp [or_imp, forall_and, ] <;> (try (intro _hne; simp [_hne])), by decide⟩ ?_
          simp
  · have hE : reachE l g e = chkErr l [e, g] := if_neg h0
    have hO : endsO l e g = [] := if_neg h0
    rw [hE, hO]
    refine acallK tabOk Try.func39 rfl rfl (show 3 ≤ _ by decide) rfl fun _ => ?_; simp only [Try.ntmps39]
    repeat (first | (with_reducible first | refine zq1 fun _ => ?_ | refine zq2 fun _ => ?_ | refine zq3 ?_) | ((first | refine zq4 ?_ | refine zq5 fun _ _ => ?_ | refine zq6 ?_); simp [-getElem?_pos, z0, z1, z2, z0]) | ((first | refine AWp.ret ?_ | refine AWp.skip ?_ | refine AWp.exit ?_); try simp only [thenP]) | (with_reducible refine zq7 ?_; simp only [blockP, thenP, reduceIte]) | with_reducible refine zq8 ?_)
    (first | refine Exec0.call [] ca ?_ rfl ?_ ?_ | refine Exec.call [] ca ?_ rfl ?_ ?_); (focus simp [-getElem?_pos, h0]); (focus simp [-getElem?_pos, z0, z1, z2, h0]); simp [-getElem?_pos, z0, z1, z2, h0]
    repeat (first | (with_reducible first | refine zq1 fun _ => ?_ | refine zq2 fun _ => ?_ | refine zq3 ?_) | ((first | refine zq4 ?_ | refine zq5 fun _ _ => ?_ | refine zq6 ?_); simp [-getElem?_pos, z0, z1, z2, h0]) | ((first | refine AWp.ret ?_ | refine AWp.skip ?_ | refine AWp.exit ?_); try simp only [thenP]) | (with_reducible refine zq7 ?_; simp only [blockP, thenP, reduceIte]) | with_reducible refine zq8 ?_)
    (first | refine Exec0.call [] ca ?_ rfl ?_ ?_ | refine Exec.call [] ca ?_ rfl ?_ ?_); (focus simp [-getElem?_pos, h0]); (focus simp [-getElem?_pos, z0, z1, z2, h0]); simp [-getElem?_pos, z0, z1, z2, h0]
    repeat (first | (with_reducible first | refine zq1 fun _ => ?_ | refine zq2 fun _ => ?_ | refine zq3 ?_) | ((first | refine zq4 ?_ | refine zq5 fun _ _ => ?_ | refine zq6 ?_); simp [-getElem?_pos, z0, z1, z2, h0]) | ((first | refine AWp.ret ?_ | refine AWp.skip ?_ | refine AWp.exit ?_); try simp only [thenP]) | (with_reducible refine zq7 ?_; simp only [blockP, thenP, reduceIte]) | with_reducible refine zq8 ?_)
    (first | refine RR.ret ?_ | refine RR.normal ?_); simp [z0]
theorem spare_short (l : List HS) (e g : HE) : (spareO l e g).length ≤ 1000000 := by
  by_cases h0 : chkErr l [e, g] = 0
  · have n2 := (chkOk h0).1.n2
    rw [spare_len h0]
    exact Nat.le_trans (List.length_filter_le _ _) (by simp; omega)
  · rw [spareO, if_neg h0]; simp
theorem ends_short (l : List HS) (e g : HE) : (endsO l e g).length ≤ 1000000 := by
  by_cases h0 : chkErr l [e, g] = 0
  · have n2 := (chkOk h0).1.n2
    rw [ends_len h0]
    exact Nat.le_trans (List.length_filter_le _ _) (by simp; omega)
  · rw [endsO, if_neg h0]; simp
theorem honeSpares_c (l : List HS) (e g : HE) : ACall Try.prog 7 [boxD l, edgD e, edgD g] (bD true) := by
  have cG := great_c l
  have cw := works_call
  by_cases g1 : 10 < l.length
  · rw [decide_eq_true g1] at cG
    refine acallK tabOk Try.func7 rfl rfl (show 3 ≤ _ by decide) rfl fun _ => ?_; simp only [Try.ntmps7]
    repeat (first | (with_reducible first | refine zq1 fun _ => ?_ | refine zq2 fun _ => ?_ | refine zq3 ?_) | ((first | refine zq4 ?_ | refine zq5 fun _ _ => ?_ | refine zq6 ?_); simp [-getElem?_pos, z0, z1, z2, z0]) | ((first | refine AWp.ret ?_ | refine AWp.skip ?_ | refine AWp.exit ?_); try simp only [thenP]) | (with_reducible refine zq7 ?_; simp only [blockP, thenP, reduceIte]) | with_reducible refine zq8 ?_)
    (first | refine Exec0.call [] cG ?_ rfl ?_ ?_ | refine Exec.call [] cG ?_ rfl ?_ ?_); (focus simp [-getElem?_pos, z0]); (focus simp [-getElem?_pos, z0, z1, z2, z0]); simp [-getElem?_pos, z0, z1, z2, z0]
    repeat (first | (with_reducible first | refine zq1 fun _ => ?_ | refine zq2 fun _ => ?_ | refine zq3 ?_) | ((first | refine zq4 ?_ | refine zq5 fun _ _ => ?_ | refine zq6 ?_); simp [-getElem?_pos, z0, z1, z2, z0]) | ((first | refine AWp.ret ?_ | refine AWp.skip ?_ | refine AWp.exit ?_); try simp only [thenP]) | (with_reducible refine zq7 ?_; simp only [blockP, thenP, reduceIte]) | with_reducible refine zq8 ?_)
    (first | refine Exec0.call [] cw ?_ rfl ?_ ?_ | refine Exec.call [] cw ?_ rfl ?_ ?_); (focus simp [-getElem?_pos, z0]); (focus simp [-getElem?_pos, z0, z1, z2, z0]); simp [-getElem?_pos, z0, z1, z2, z0]
    repeat (first | (with_reducible first | refine zq1 fun _ => ?_ | refine zq2 fun _ => ?_ | refine zq3 ?_) | ((first | refine zq4 ?_ | refine zq5 fun _ _ => ?_ | refine zq6 ?_); simp [-getElem?_pos, z0, z1, z2, z0]) | ((first | refine AWp.ret ?_ | refine AWp.skip ?_ | refine AWp.exit ?_); try simp only [thenP]) | (with_reducible refine zq7 ?_; simp only [blockP, thenP, reduceIte]) | with_reducible refine zq8 ?_)
    (first | refine RR.ret ?_ | refine RR.normal ?_); simp [z0]
  rw [decide_eq_false g1] at cG
  have c1 := spare_c l e g
  have c2 := refSpare_c l e g
  have c3 := ends_c l e g
  have c4 := refEnds_c l e g
  have i1 := ints_c (spareO l e g) (spareO l e g) (spare_short l e g) (spare_short l e g)
  have i2 := ints_c (endsO l e g) (endsO l e g) (ends_short l e g) (ends_short l e g)
  rw [decide_eq_true rfl] at i1 i2
  generalize spareO l e g = A at *
  generalize endsO l e g = B at *
  generalize reachE l g e = a at *
  refine acallK tabOk Try.func7 rfl rfl (show 3 ≤ _ by decide) rfl fun _ => ?_; simp only [Try.ntmps7]
  repeat (first | (with_reducible first | refine zq1 fun _ => ?_ | refine zq2 fun _ => ?_ | refine zq3 ?_) | ((first | refine zq4 ?_ | refine zq5 fun _ _ => ?_ | refine zq6 ?_); simp [-getElem?_pos, z0, z1, z2, z0]) | ((first | refine AWp.ret ?_ | refine AWp.skip ?_ | refine AWp.exit ?_); try simp only [thenP]) | (with_reducible refine zq7 ?_; simp only [blockP, thenP, reduceIte]) | with_reducible refine zq8 ?_)
  (first | refine Exec0.call [] cG ?_ rfl ?_ ?_ | refine Exec.call [] cG ?_ rfl ?_ ?_); (focus simp [-getElem?_pos, z0]); (focus simp [-getElem?_pos, z0, z1, z2, z0]); simp [-getElem?_pos, z0, z1, z2, z0]
  repeat (first | (with_reducible first | refine zq1 fun _ => ?_ | refine zq2 fun _ => ?_ | refine zq3 ?_) | ((first | refine zq4 ?_ | refine zq5 fun _ _ => ?_ | refine zq6 ?_); simp [-getElem?_pos, z0, z1, z2, z0]) | ((first | refine AWp.ret ?_ | refine AWp.skip ?_ | refine AWp.exit ?_); try simp only [thenP]) | (with_reducible refine zq7 ?_; simp only [blockP, thenP, reduceIte]) | with_reducible refine zq8 ?_)
  (first | refine Exec0.call [] c1 ?_ rfl ?_ ?_ | refine Exec.call [] c1 ?_ rfl ?_ ?_); (focus simp [-getElem?_pos, z0]); (focus simp [-getElem?_pos, z0, z1, z2, z0]); simp [-getElem?_pos, z0, z1, z2, z0]
  repeat (first | (with_reducible first | refine zq1 fun _ => ?_ | refine zq2 fun _ => ?_ | refine zq3 ?_) | ((first | refine zq4 ?_ | refine zq5 fun _ _ => ?_ | refine zq6 ?_); simp [-getElem?_pos, z0, z1, z2, z0]) | ((first | refine AWp.ret ?_ | refine AWp.skip ?_ | refine AWp.exit ?_); try simp only [thenP]) | (with_reducible refine zq7 ?_; simp only [blockP, thenP, reduceIte]) | with_reducible refine zq8 ?_)
  (first | refine Exec0.call [] c2 ?_ rfl ?_ ?_ | refine Exec.call [] c2 ?_ rfl ?_ ?_); (focus simp [-getElem?_pos, z0]); (focus simp [-getElem?_pos, z0, z1, z2, z0]); simp [-getElem?_pos, z0, z1, z2, z0]
  repeat (first | (with_reducible first | refine zq1 fun _ => ?_ | refine zq2 fun _ => ?_ | refine zq3 ?_) | ((first | refine zq4 ?_ | refine zq5 fun _ _ => ?_ | refine zq6 ?_); simp [-getElem?_pos, z0, z1, z2, z0]) | ((first | refine AWp.ret ?_ | refine AWp.skip ?_ | refine AWp.exit ?_); try simp only [thenP]) | (with_reducible refine zq7 ?_; simp only [blockP, thenP, reduceIte]) | with_reducible refine zq8 ?_)
  (first | refine Exec0.call [] c3 ?_ rfl ?_ ?_ | refine Exec.call [] c3 ?_ rfl ?_ ?_); (focus simp [-getElem?_pos, z0]); (focus simp [-getElem?_pos, z0, z1, z2, z0]); simp [-getElem?_pos, z0, z1, z2, z0]
  repeat (first | (with_reducible first | refine zq1 fun _ => ?_ | refine zq2 fun _ => ?_ | refine zq3 ?_) | ((first | refine zq4 ?_ | refine zq5 fun _ _ => ?_ | refine zq6 ?_); simp [-getElem?_pos, z0, z1, z2, z0]) | ((first | refine AWp.ret ?_ | refine AWp.skip ?_ | refine AWp.exit ?_); try simp only [thenP]) | (with_reducible refine zq7 ?_; simp only [blockP, thenP, reduceIte]) | with_reducible refine zq8 ?_)
  (first | refine Exec0.call [] c4 ?_ rfl ?_ ?_ | refine Exec.call [] c4 ?_ rfl ?_ ?_); (focus simp [-getElem?_pos, z0]); (focus simp [-getElem?_pos, z0, z1, z2, z0]); simp [-getElem?_pos, z0, z1, z2, z0]
  repeat (first | (with_reducible first | refine zq1 fun _ => ?_ | refine zq2 fun _ => ?_ | refine zq3 ?_) | ((first | refine zq4 ?_ | refine zq5 fun _ _ => ?_ | refine zq6 ?_); simp [-getElem?_pos, z0, z1, z2, z0]) | ((first | refine AWp.ret ?_ | refine AWp.skip ?_ | refine AWp.exit ?_); try simp only [thenP]) | (with_reducible refine zq7 ?_; simp only [blockP, thenP, reduceIte]) | with_reducible refine zq8 ?_)
  (first | refine Exec0.call [] i1 ?_ rfl ?_ ?_ | refine Exec.call [] i1 ?_ rfl ?_ ?_); (focus simp [-getElem?_pos, z0]); (focus simp [-getElem?_pos, z0, z1, z2, z0]); simp [-getElem?_pos, z0, z1, z2, z0]
  (first | refine Exec0.call [] i2 ?_ rfl ?_ ?_ | refine Exec.call [] i2 ?_ rfl ?_ ?_); (focus simp [-getElem?_pos, z0]); (focus simp [-getElem?_pos, z0, z1, z2, z0]); simp [-getElem?_pos, z0, z1, z2, z0]
  (first | refine Exec0.call [] cw ?_ rfl ?_ ?_ | refine Exec.call [] cw ?_ rfl ?_ ?_); (focus simp [-getElem?_pos, z0]); (focus simp [-getElem?_pos, z0, z1, z2, z0]); simp [-getElem?_pos, z0, z1, z2, z0]
  repeat (first | (with_reducible first | refine zq1 fun _ => ?_ | refine zq2 fun _ => ?_ | refine zq3 ?_) | ((first | refine zq4 ?_ | refine zq5 fun _ _ => ?_ | refine zq6 ?_); simp [-getElem?_pos, z0, z1, z2, z0]) | ((first | refine AWp.ret ?_ | refine AWp.skip ?_ | refine AWp.exit ?_); try simp only [thenP]) | (with_reducible refine zq7 ?_; simp only [blockP, thenP, reduceIte]) | with_reducible refine zq8 ?_)
  (first | refine RR.ret ?_ | refine RR.normal ?_); simp [z0]
end Go.Proofs.Ytcmkkgdjhjpldaa.Eng

namespace Go.Proofs.Ytcmkkgdjhjpldaa.honeSpares
open Go.ChangeShapes Go.WideShapes Go.ChangeAt Go.RowKit Go.Deep
theorem own : ownKnob Try.prog.godebug = none := by kernel_rfl
theorem kids : Kids Try.prog (· < Try.prog.types.size) := kids_rows (by kernel_rfl) (by kernel_rfl)
theorem full : ∀ t e, t < Try.prog.types.size → Try.prog.underlying t = some (.slice e) → 0 < Try.prog.cellsOf e := slices_full_of Try.prog (by kernel_rfl)
theorem rowed : ∀ t ∈ Try.f7.params.toList, t < Try.prog.types.size := of_decide_eq_true (by kernel_rfl)
set_option maxRecDepth 100000 in
set_option maxHeartbeats 1000000 in
theorem lifted (os : Os) (started : os.Started) (H : Type) (enc : TypeId × Value → H) :
    ReturnsInHanded {} Try.checked os 7 .any (Rows.honeSparesSpec.pre6 enc Try.prog Try.f7 Rows.honeSparesRow.domain false) (Rows.honeSparesSpec.post enc Try.prog Try.f7 false true false false) := by
  refine returnsInHanded_of_change (C := Try.checked) own started (by kernel_rfl) Try.func7
    (ChangeSpec.witness6 (enc := enc) (C := Try.checked) false ⟨#[], #[.slice none 0 0, .agg #[.int .i64 0, .int .i64 0], .agg #[.int .i64 0, .int .i64 0]], []⟩ 8 (by kernel_rfl) (by kernel_rfl) (by kernel_rfl) (by kernel_rfl)) ?_
  intro W base args ds gs before hval0 hW hcnd _
  have hval : ∀ (j : Nat) t v, Try.f7.params[j]? = some t → args[j]? = some v → Value.okWide Try.prog W .any base t v := hval0
  have hW' := hW
  obtain ⟨p, q, hA0, hV, rfl, hfz, hnd⟩ := hW
  have hA : DataW.TrodAll enc Try.prog W 0 (fun _ => true) true Try.f7.params.toList args.toList ds p := hA0
  have hAk := hA
  rw [Try.params7] at hA hval
  obtain ⟨v0, vs0, d0, ds0, a0, b0, e0, f0, rfl, h0, t0⟩ := trodAll_cons hA
  obtain ⟨v1, vs1, d1, ds1, a1, b1, e1, f1, rfl, h1, t1⟩ := trodAll_cons t0
  obtain ⟨v2, vs2, d2, ds2, a2, b2, e2, f2, rfl, h2, t2⟩ := trodAll_cons t1
  obtain ⟨en, fn, rfl⟩ := trodAll_nil t2
  subst en
  subst fn
  subst e2
  subst f2
  subst e1
  subst f1
  subst f0
  have ea : args = #[v0, v1, v2] := by rw [← Array.toList_inj]; exact e0
  subst ea
  clear e0
  obtain ⟨rfl, rfl⟩ := trodVars_none hV
  clear hA0 hval0 hA
  simp only [List.append_nil] at hW' hAk
  have o0 := hval 0 _ _ rfl rfl
  have o1 := hval 1 _ _ rfl rfl
  have o2 := hval 2 _ _ rfl rfl
  clear hval
  obtain ⟨D0, s0, r0⟩ := Eng.open_sh (n := 9) (.sl Eng.shStone) (by kernel_rfl) o0 h0
  obtain ⟨D1, s1, r1⟩ := Eng.open_sh (n := 9) (Eng.shEdge) (by kernel_rfl) o1 h1
  obtain ⟨D2, s2, r2⟩ := Eng.open_sh (n := 9) (Eng.shEdge) (by kernel_rfl) o2 h2
  obtain ⟨l, rfl⟩ := Eng.box_in s0
  obtain ⟨e, rfl⟩ := Eng.edge_in s1
  obtain ⟨g, rfl⟩ := Eng.edge_in s2
  refine Calls.mono (Eng.law_true (Eng.honeSpares_c l e g) rfl (Eng.reps_cons r0 (Eng.reps_cons r1 (Eng.reps_cons r2 Eng.reps_nil)))) fun e W' ⟨he, hb⟩ => ?_
  subst he
  exact ⟨_, rfl, post_later (pv := []) hW' (List.append_nil _).symm (fun _ _ _ => (trodAll_cons_mk (shut_bool Try.underlying4 _) trodAll_mk0))
    (fun sp hsp => Eng.args_later' kids full rowed hAk hb hsp) (fun _ _ => rfl) (ok_one (by kernel_rfl) rfl (okWide_bool_mk Try.underlying4 _)) hb⟩
theorem over : Rows.honeSparesRow.holds Try.pinned (OpenSpec.ofChange Rows.honeSparesSpec) :=
  OpenClaim.holds_of_wide 7 Try.f7 rfl rfl rfl rfl rfl rfl rfl ⟨rfl, rfl, rfl, rfl, rfl⟩ rfl rfl rfl rfl rfl (by kernel_rfl) Try.func7 (by kernel_rfl)
    (of_decide_eq_true (by kernel_rfl)) (by unfold Func.isWrapper; first | (rw [if_pos (by decide +kernel)]; kernel_rfl) | (rw [if_neg (by decide +kernel)]; exact ⟨rfl, rfl⟩))
    (fun os started H enc _ => lifted os started H enc)
theorem proved : Rows.HoneSparesSaid := over
end Go.Proofs.Ytcmkkgdjhjpldaa.honeSpares
