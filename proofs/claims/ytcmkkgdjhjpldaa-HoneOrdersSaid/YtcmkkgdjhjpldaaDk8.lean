/-
  HoneOrders returns true, for every box, edge, goal and turn: the order of the stones in the box changes neither how many strokes are fewest, nor the rows, nor which stones can be given away, but for their numbers. No condition.
-/
import Derived.Test.YtcmkkgdjhjpldaaDk7
set_option linter.unusedSimpArgs false
set_option linter.unusedVariables false
noncomputable section
namespace Go.Proofs.Ytcmkkgdjhjpldaa.Eng
open Go.RowKit
set_option maxRecDepth 100000
set_option maxHeartbeats 32000000
theorem honeOrders_c (l : List HS) (e g : HE) (t : Nat) (ht : t ≤ 255) : ACall Try.prog 13 [boxD l, edgD e, edgD g, .val (.int .u8 t)] (bD true) := by
  have cf := fine_c l e g
  have cw := works_call
  rcases hf : fineB l e g <;> rw [hf] at cf
  · refine acallK tabOk Try.func13 rfl rfl (show 4 ≤ _ by decide) rfl fun _ => ?_; simp only [Try.ntmps13]
    repeat (first | (with_reducible first | refine zq1 fun _ => ?_ | refine zq2 fun _ => ?_ | refine zq3 ?_) | ((first | refine zq4 ?_ | refine zq5 fun _ _ => ?_ | refine zq6 ?_); simp [-getElem?_pos, z0, z1, z2, z0]) | ((first | refine AWp.ret ?_ | refine AWp.skip ?_ | refine AWp.exit ?_); try simp only [thenP]) | (with_reducible refine zq7 ?_; simp only [blockP, thenP, reduceIte]) | with_reducible refine zq8 ?_)
    (first | refine Exec0.call [] cf ?_ rfl ?_ ?_ | refine Exec.call [] cf ?_ rfl ?_ ?_); (focus simp [-getElem?_pos, z0]); (focus simp [-getElem?_pos, z0, z1, z2, z0]); simp [-getElem?_pos, z0, z1, z2, z0]
    repeat (first | (with_reducible first | refine zq1 fun _ => ?_ | refine zq2 fun _ => ?_ | refine zq3 ?_) | ((first | refine zq4 ?_ | refine zq5 fun _ _ => ?_ | refine zq6 ?_); simp [-getElem?_pos, z0, z1, z2, z0]) | ((first | refine AWp.ret ?_ | refine AWp.skip ?_ | refine AWp.exit ?_); try simp only [thenP]) | (with_reducible refine zq7 ?_; simp only [blockP, thenP, reduceIte]) | with_reducible refine zq8 ?_)
    (first | refine Exec0.call [] cw ?_ rfl ?_ ?_ | refine Exec.call [] cw ?_ rfl ?_ ?_); (focus simp [-getElem?_pos, z0]); (focus simp [-getElem?_pos, z0, z1, z2, z0]); simp [-getElem?_pos, z0, z1, z2, z0]
    repeat (first | (with_reducible first | refine zq1 fun _ => ?_ | refine zq2 fun _ => ?_ | refine zq3 ?_) | ((first | refine zq4 ?_ | refine zq5 fun _ _ => ?_ | refine zq6 ?_); simp [-getElem?_pos, z0, z1, z2, z0]) | ((first | refine AWp.ret ?_ | refine AWp.skip ?_ | refine AWp.exit ?_); try simp only [thenP]) | (with_reducible refine zq7 ?_; simp only [blockP, thenP, reduceIte]) | with_reducible refine zq8 ?_)
    (first | refine RR.ret ?_ | refine RR.normal ?_); simp [z0]
  rw [fineB, Bool.and_eq_true, decide_eq_true_eq, decide_eq_true_eq] at hf
  have h0 := hf.2
  obtain ⟨hb, hes⟩ := chkOk h0
  have gg := goodE (e := g) (by simp at hes; exact hes.2)
  have ge := goodE (e := e) (by simp at hes; exact hes.1)
  have hl := hb.all
  have n1 := hb.n1
  have n2 := hb.n2
  have h0' := rot_chk h0 t
  have hb' := (chkOk h0').1
  have hn := need_set hl hb'.all (rot_mem l t) gg ge
  have hre : reachE (rotL l t l.length) g e = reachE l g e := by rw [reachE, reachE, if_pos h0, if_pos h0', hn]
  have c1 := fewest_c h0
  have c2 := fewest_c h0'
  rw [show fewN (rotL l t l.length) g e = fewN l g e by rw [fewN, fewN, hn]] at c2
  have c3 := rows_c l e g
  have c4 := rows_c (rotL l t l.length) e g
  rw [← rowsO_set h0 h0' (rot_mem l t), hre] at c4
  have c5 := last_c l g
  have c6 := last_c (rotL l t l.length) g
  obtain ⟨f1, f2, f3⟩ := far_set h0 h0' (rot_mem l t)
  rw [f2] at c5
  rw [← f1, f3] at c6
  have c7 := spare_c l e g
  have c8 := spare_c (rotL l t l.length) e g
  have c9 := ends_c l e g
  have c10 := ends_c (rotL l t l.length) e g
  rw [hre] at c8 c10
  have hPl := spare_rotlen h0 t
  have hUl := ends_rotlen h0 t
  have hP : ∀ i, i < l.length → decide ((i : Int) ∈ spareO (rotL l t l.length) e g) = decide ((((i + t) % l.length : Nat) : Int) ∈ spareO l e g) := fun i hi => by simp only [spare_rot h0 t hi]
  have hU : ∀ i, i < l.length → decide ((i : Int) ∈ endsO (rotL l t l.length) e g) = decide ((((i + t) % l.length : Nat) : Int) ∈ endsO l e g) := fun i hi => by simp only [ends_rot h0 t hi]
  have hP6 : (spareO l e g).length ≤ 1000000 := by
    rw [spare_len h0]
    exact Nat.le_trans (List.length_filter_le _ _) (by simp; omega)
  have hU6 : (endsO l e g).length ≤ 1000000 := by
    rw [ends_len h0]
    exact Nat.le_trans (List.length_filter_le _ _) (by simp; omega)
  have i1 := lists_same (rowsO l e g) (rowsO_len l e g) (rowsO_short l e g)
  have i2 := ints_c (farO l g 800) (farO l g 800) (farO_len l g 800) (farO_len l g 800)
  rw [decide_eq_true rfl] at i2
  have hget := fun {i k : Nat} (hi : i < k) (hk : k ≤ l.length) => rot_get (l := l) (t := t) hi hk
  have hnext := fun {k : Nat} (hk : k < l.length) {s : HS} (hs : l[(k + t) % l.length]? = some s) => rot_succ (l := l) (t := t) hk hs
  have hxl : ∀ k, (rotL l t k).length = k := rotL_len l t
  have hx0 : rotL l t 0 = [] := rfl
  generalize rowsO l e g = R at *
  generalize farO l g 800 = L at *
  generalize spareO l e g = P at *
  generalize spareO (rotL l t l.length) e g = Q at *
  generalize endsO l e g = U at *
  generalize endsO (rotL l t l.length) e g = V at *
  generalize fewN l g e = N at *
  generalize reachE l g e = re at *
  generalize rotL l t = X at *
  have v0 : IntKind.i64.wrap (t : Int) = (t : Int) := wrap64_in (by omega)
  have hne : ¬ (l.length : Int) = 0 := by omega
  have hnn : ¬ l = [] := fun h => by subst h; simp at n1
  refine acallK tabOk Try.func13 rfl rfl (show 4 ≤ _ by decide) rfl fun _ => ?_; simp only [Try.ntmps13]
  repeat (first | (with_reducible first | refine zq1 fun _ => ?_ | refine zq2 fun _ => ?_ | refine zq3 ?_) | ((first | refine zq4 ?_ | refine zq5 fun _ _ => ?_ | refine zq6 ?_); simp [-getElem?_pos, z0, z1, z2, z0]) | ((first | refine AWp.ret ?_ | refine AWp.skip ?_ | refine AWp.exit ?_); try simp only [thenP]) | (with_reducible refine zq7 ?_; simp only [blockP, thenP, reduceIte]) | with_reducible refine zq8 ?_)
  (first | refine Exec0.call [] cf ?_ rfl ?_ ?_ | refine Exec.call [] cf ?_ rfl ?_ ?_); (focus simp [-getElem?_pos, z0]); (focus simp [-getElem?_pos, z0, z1, z2, z0]); simp [-getElem?_pos, z0, z1, z2, z0]
  repeat (first | (with_reducible first | refine zq1 fun _ => ?_ | refine zq2 fun _ => ?_ | refine zq3 ?_) | ((first | refine zq4 ?_ | refine zq5 fun _ _ => ?_ | refine zq6 ?_); simp [-getElem?_pos, z0, z1, z2, z0]) | ((first | refine AWp.ret ?_ | refine AWp.skip ?_ | refine AWp.exit ?_); try simp only [thenP]) | (with_reducible refine zq7 ?_; simp only [blockP, thenP, reduceIte]) | with_reducible refine zq8 ?_)
  refine AWp.loopK (ι := { i : Nat // i ≤ l.length }) (n := 3) (fun i => [(0, .d (boxD l)), (3, .d (.val (.int .u8 t))), (5, .ptr 0 0 0), (6, .ptr 1 0 0), (9, gS 2 3 (hsRows (X i.1))), (10, .d (iD i.1))]) (fun i => (0, .box 24 [.d (iD e.depth), .d (iD e.burr)] false) :: (1, .box 24 [.d (iD g.depth), .d (iD g.burr)] false) :: gM 2 54 3 (hsRows (X i.1))) (fun i => l.length - i.1) ⟨0, Nat.zero_le _⟩ [0, 1, 2] ?_ ?_
  · refine ⟨by rfl, by simp [hx0, hsRows], by simp [or_imp, forall_and, hx0, hsRows] <;> (try (intro _hne; simp [_hne])), by decide⟩
  rintro ⟨i, hi⟩ kk
  have w1 : IntKind.i64.wrap ((i : Int) + 1) = (i : Int) + 1 := wrap64_in (by omega)
  have hXr : (hsRows (X i)).length = i := by simp [hxl]
  by_cases hlt : i < l.length
  · have hii : (i : Int) < l.length := by omega
    have v1 : IntKind.i64.wrap ((i : Int) + (t : Int)) = (i : Int) + (t : Int) := wrap64_in (by omega)
    obtain ⟨m, hm⟩ : ∃ m, m = (i + t) % l.length := ⟨_, rfl⟩
    have v2 : ((i : Int) + (t : Int)).tmod (l.length : Int) = (m : Int) := by
      rw [Int.tmod_eq_emod_of_nonneg (by omega), hm]
      first | rfl | exact (Int.natCast_mod _ _).symm | exact (Int.natCast_emod _ _).symm | simp
    have hml : m < l.length := by rw [hm]; exact Nat.mod_lt _ (by omega)
    have hmi : (m : Int) < l.length := by omega
    obtain ⟨s, hs⟩ : ∃ s, l[m]? = some s := ⟨_, List.getElem?_eq_getElem hml⟩
    have hX1 := hnext hlt (s := s) (by rw [← hm]; exact hs)
    have hXq : hsRows (X (i + 1)) = hsRows (X i) ++ [[iD s.grit, iD s.cut, iD s.burr]] := by rw [hX1]; simp [hsRows]
    obtain hR | ⟨r, o, hR⟩ : hsRows (X i) = [] ∨ ∃ r o, hsRows (X i) = r :: o := by
      cases hsRows (X i) with
      | nil => exact .inl rfl
      | cons r o => exact .inr ⟨r, o, rfl⟩
    · repeat (first | (with_reducible first | refine zq1 fun _ => ?_ | refine zq2 fun _ => ?_ | refine zq3 ?_) | ((first | refine zq4 ?_ | refine zq5 fun _ _ => ?_ | refine zq6 ?_); simp [-getElem?_pos, z0, z1, z2, hii, hlt, v0, v1, v2, hmi, hml, hs, hR, hne, hnn, w1]) | ((first | refine AWp.ret ?_ | refine AWp.skip ?_ | refine AWp.exit ?_); try simp only [thenP]) | (with_reducible refine zq7 ?_; simp only [blockP, thenP, reduceIte]) | with_reducible refine zq8 ?_)
      refine LL.go ⟨i + 1, hlt⟩ [0, 1, 19] ⟨by rfl, by simp [hXq, hR], by simp [or_imp, forall_and, hXq, hR] <;> (try (intro _hne; simp [_hne])), by decide⟩ ?_
      simp; omega
    · rw [hR] at hXr
      simp at hXr
      have hX3 : ∀ q ∈ hsRows (X i), q.length = 3 := fun q hq => by
        obtain ⟨z, -, rfl⟩ := List.mem_map.1 hq
        rfl
      rw [hR] at hX3
      have hr3 : r.length = 3 := hX3 r List.mem_cons_self
      have ho3 : (∀ q ∈ o, q.length = 3) = True := eq_true fun q hq => hX3 q (List.mem_cons_of_mem _ hq)
      have f1 : fitsB (o.length + 1 + 1) 24 = true := fitsB_small (by omega) (by omega)
      repeat (first | (with_reducible first | refine zq1 fun _ => ?_ | refine zq2 fun _ => ?_ | refine zq3 ?_) | ((first | refine zq4 ?_ | refine zq5 fun _ _ => ?_ | refine zq6 ?_); simp [-getElem?_pos, z0, z1, z2, hii, hlt, v0, v1, v2, hmi, hml, hs, hR, hne, hnn, w1, f1, hr3, ho3]) | ((first | refine AWp.ret ?_ | refine AWp.skip ?_ | refine AWp.exit ?_); try simp only [thenP]) | (with_reducible refine zq7 ?_; simp only [blockP, thenP, reduceIte]) | with_reducible refine zq8 ?_)
      refine LL.go ⟨i + 1, hlt⟩ [0, 1, 19] ⟨by rfl, by simp [hXq, hR], by simp [or_imp, forall_and, hXq, hR] <;> (try (intro _hne; simp [_hne])), by decide⟩ ?_
      simp; omega
  · obtain rfl : i = l.length := by omega
    obtain ⟨r, o, hR⟩ : ∃ r o, hsRows (X l.length) = r :: o := by
      cases hq : hsRows (X l.length) with
      | nil => rw [hq] at hXr; simp at hXr; omega
      | cons r o => exact ⟨r, o, rfl⟩
    have hXd : boxD (X l.length) = .list (r :: o) := by rw [boxD, hR]
    rw [hXd] at c2 c4 c6 c8 c10
    repeat (first | (with_reducible first | refine zq1 fun _ => ?_ | refine zq2 fun _ => ?_ | refine zq3 ?_) | ((first | refine zq4 ?_ | refine zq5 fun _ _ => ?_ | refine zq6 ?_); simp [-getElem?_pos, z0, z1, z2, hlt, hR]) | ((first | refine AWp.ret ?_ | refine AWp.skip ?_ | refine AWp.exit ?_); try simp only [thenP]) | (with_reducible refine zq7 ?_; simp only [blockP, thenP, reduceIte]) | with_reducible refine zq8 ?_)
    (first | refine Exec0.call [] c1 ?_ rfl ?_ ?_ | refine Exec.call [] c1 ?_ rfl ?_ ?_); (focus simp [-getElem?_pos, z0]); (focus simp [-getElem?_pos, z0, z1, z2, z0]); simp [-getElem?_pos, z0, z1, z2, z0]
    repeat (first | (with_reducible first | refine zq1 fun _ => ?_ | refine zq2 fun _ => ?_ | refine zq3 ?_) | ((first | refine zq4 ?_ | refine zq5 fun _ _ => ?_ | refine zq6 ?_); simp [-getElem?_pos, z0, z1, z2, z0]) | ((first | refine AWp.ret ?_ | refine AWp.skip ?_ | refine AWp.exit ?_); try simp only [thenP]) | (with_reducible refine zq7 ?_; simp only [blockP, thenP, reduceIte]) | with_reducible refine zq8 ?_)
    (first | refine Exec0.call [2] c2 ?_ rfl ?_ ?_ | refine Exec.call [2] c2 ?_ rfl ?_ ?_); (focus simp [-getElem?_pos, z0]); (focus simp [-getElem?_pos, z0, z1, z2, z0]); simp [-getElem?_pos, z0, z1, z2, z0]
    repeat (first | (with_reducible first | refine zq1 fun _ => ?_ | refine zq2 fun _ => ?_ | refine zq3 ?_) | ((first | refine zq4 ?_ | refine zq5 fun _ _ => ?_ | refine zq6 ?_); simp [-getElem?_pos, z0, z1, z2, z0]) | ((first | refine AWp.ret ?_ | refine AWp.skip ?_ | refine AWp.exit ?_); try simp only [thenP]) | (with_reducible refine zq7 ?_; simp only [blockP, thenP, reduceIte]) | with_reducible refine zq8 ?_)
    (first | refine Exec0.call [] c3 ?_ rfl ?_ ?_ | refine Exec.call [] c3 ?_ rfl ?_ ?_); (focus simp [-getElem?_pos, z0]); (focus simp [-getElem?_pos, z0, z1, z2, z0]); simp [-getElem?_pos, z0, z1, z2, z0]
    repeat (first | (with_reducible first | refine zq1 fun _ => ?_ | refine zq2 fun _ => ?_ | refine zq3 ?_) | ((first | refine zq4 ?_ | refine zq5 fun _ _ => ?_ | refine zq6 ?_); simp [-getElem?_pos, z0, z1, z2, z0]) | ((first | refine AWp.ret ?_ | refine AWp.skip ?_ | refine AWp.exit ?_); try simp only [thenP]) | (with_reducible refine zq7 ?_; simp only [blockP, thenP, reduceIte]) | with_reducible refine zq8 ?_)
    (first | refine Exec0.call [2] c4 ?_ rfl ?_ ?_ | refine Exec.call [2] c4 ?_ rfl ?_ ?_); (focus simp [-getElem?_pos, z0]); (focus simp [-getElem?_pos, z0, z1, z2, z0]); simp [-getElem?_pos, z0, z1, z2, z0]
    repeat (first | (with_reducible first | refine zq1 fun _ => ?_ | refine zq2 fun _ => ?_ | refine zq3 ?_) | ((first | refine zq4 ?_ | refine zq5 fun _ _ => ?_ | refine zq6 ?_); simp [-getElem?_pos, z0, z1, z2, z0]) | ((first | refine AWp.ret ?_ | refine AWp.skip ?_ | refine AWp.exit ?_); try simp only [thenP]) | (with_reducible refine zq7 ?_; simp only [blockP, thenP, reduceIte]) | with_reducible refine zq8 ?_)
    (first | refine Exec0.call [] c5 ?_ rfl ?_ ?_ | refine Exec.call [] c5 ?_ rfl ?_ ?_); (focus simp [-getElem?_pos, z0]); (focus simp [-getElem?_pos, z0, z1, z2, z0]); simp [-getElem?_pos, z0, z1, z2, z0]
    repeat (first | (with_reducible first | refine zq1 fun _ => ?_ | refine zq2 fun _ => ?_ | refine zq3 ?_) | ((first | refine zq4 ?_ | refine zq5 fun _ _ => ?_ | refine zq6 ?_); simp [-getElem?_pos, z0, z1, z2, z0]) | ((first | refine AWp.ret ?_ | refine AWp.skip ?_ | refine AWp.exit ?_); try simp only [thenP]) | (with_reducible refine zq7 ?_; simp only [blockP, thenP, reduceIte]) | with_reducible refine zq8 ?_)
    (first | refine Exec0.call [2] c6 ?_ rfl ?_ ?_ | refine Exec.call [2] c6 ?_ rfl ?_ ?_); (focus simp [-getElem?_pos, z0]); (focus simp [-getElem?_pos, z0, z1, z2, z0]); simp [-getElem?_pos, z0, z1, z2, z0]
    repeat (first | (with_reducible first | refine zq1 fun _ => ?_ | refine zq2 fun _ => ?_ | refine zq3 ?_) | ((first | refine zq4 ?_ | refine zq5 fun _ _ => ?_ | refine zq6 ?_); simp [-getElem?_pos, z0, z1, z2, z0]) | ((first | refine AWp.ret ?_ | refine AWp.skip ?_ | refine AWp.exit ?_); try simp only [thenP]) | (with_reducible refine zq7 ?_; simp only [blockP, thenP, reduceIte]) | with_reducible refine zq8 ?_)
    (first | refine Exec0.call [] c7 ?_ rfl ?_ ?_ | refine Exec.call [] c7 ?_ rfl ?_ ?_); (focus simp [-getElem?_pos, z0]); (focus simp [-getElem?_pos, z0, z1, z2, z0]); simp [-getElem?_pos, z0, z1, z2, z0]
    repeat (first | (with_reducible first | refine zq1 fun _ => ?_ | refine zq2 fun _ => ?_ | refine zq3 ?_) | ((first | refine zq4 ?_ | refine zq5 fun _ _ => ?_ | refine zq6 ?_); simp [-getElem?_pos, z0, z1, z2, z0]) | ((first | refine AWp.ret ?_ | refine AWp.skip ?_ | refine AWp.exit ?_); try simp only [thenP]) | (with_reducible refine zq7 ?_; simp only [blockP, thenP, reduceIte]) | with_reducible refine zq8 ?_)
    (first | refine Exec0.call [2] c8 ?_ rfl ?_ ?_ | refine Exec.call [2] c8 ?_ rfl ?_ ?_); (focus simp [-getElem?_pos, z0]); (focus simp [-getElem?_pos, z0, z1, z2, z0]); simp [-getElem?_pos, z0, z1, z2, z0]
    repeat (first | (with_reducible first | refine zq1 fun _ => ?_ | refine zq2 fun _ => ?_ | refine zq3 ?_) | ((first | refine zq4 ?_ | refine zq5 fun _ _ => ?_ | refine zq6 ?_); simp [-getElem?_pos, z0, z1, z2, z0]) | ((first | refine AWp.ret ?_ | refine AWp.skip ?_ | refine AWp.exit ?_); try simp only [thenP]) | (with_reducible refine zq7 ?_; simp only [blockP, thenP, reduceIte]) | with_reducible refine zq8 ?_)
    (first | refine Exec0.call [] c9 ?_ rfl ?_ ?_ | refine Exec.call [] c9 ?_ rfl ?_ ?_); (focus simp [-getElem?_pos, z0]); (focus simp [-getElem?_pos, z0, z1, z2, z0]); simp [-getElem?_pos, z0, z1, z2, z0]
    repeat (first | (with_reducible first | refine zq1 fun _ => ?_ | refine zq2 fun _ => ?_ | refine zq3 ?_) | ((first | refine zq4 ?_ | refine zq5 fun _ _ => ?_ | refine zq6 ?_); simp [-getElem?_pos, z0, z1, z2, z0]) | ((first | refine AWp.ret ?_ | refine AWp.skip ?_ | refine AWp.exit ?_); try simp only [thenP]) | (with_reducible refine zq7 ?_; simp only [blockP, thenP, reduceIte]) | with_reducible refine zq8 ?_)
    (first | refine Exec0.call [2] c10 ?_ rfl ?_ ?_ | refine Exec.call [2] c10 ?_ rfl ?_ ?_); (focus simp [-getElem?_pos, z0]); (focus simp [-getElem?_pos, z0, z1, z2, z0]); simp [-getElem?_pos, z0, z1, z2, z0]
    repeat (first | (with_reducible first | refine zq1 fun _ => ?_ | refine zq2 fun _ => ?_ | refine zq3 ?_) | ((first | refine zq4 ?_ | refine zq5 fun _ _ => ?_ | refine zq6 ?_); simp [-getElem?_pos, z0, z1, z2, z0]) | ((first | refine AWp.ret ?_ | refine AWp.skip ?_ | refine AWp.exit ?_); try simp only [thenP]) | (with_reducible refine zq7 ?_; simp only [blockP, thenP, reduceIte]) | with_reducible refine zq8 ?_)
    (first | refine Exec0.call [] i1 ?_ rfl ?_ ?_ | refine Exec.call [] i1 ?_ rfl ?_ ?_); (focus simp [-getElem?_pos, z0]); (focus simp [-getElem?_pos, z0, z1, z2, z0]); simp [-getElem?_pos, z0, z1, z2, z0]
    (first | refine Exec0.call [] i2 ?_ rfl ?_ ?_ | refine Exec.call [] i2 ?_ rfl ?_ ?_); (focus simp [-getElem?_pos, hPl, hUl]); (focus simp [-getElem?_pos, z0, z1, z2, hPl, hUl]); simp [-getElem?_pos, z0, z1, z2, hPl, hUl]
    repeat (first | (with_reducible first | refine zq1 fun _ => ?_ | refine zq2 fun _ => ?_ | refine zq3 ?_) | ((first | refine zq4 ?_ | refine zq5 fun _ _ => ?_ | refine zq6 ?_); simp [-getElem?_pos, z0, z1, z2, hPl, hUl]) | ((first | refine AWp.ret ?_ | refine AWp.skip ?_ | refine AWp.exit ?_); try simp only [thenP]) | (with_reducible refine zq7 ?_; simp only [blockP, thenP, reduceIte]) | with_reducible refine zq8 ?_)
    refine AWp.loopK (ι := { i : Nat // i ≤ l.length }) (n := 1) (fun i => [(0, .d (boxD l)), (3, .d (.val (.int .u8 t))), (9, .own 0 (o.length + 1) 3), (23, .d (intL P)), (25, .d (intL Q)), (27, .d (intL U)), (29, .d (intL V)), (31, .d (iD i.1))]) (fun i => [(0, .row 54 3 (r :: o) true)]) (fun i => l.length - i.1) ⟨0, Nat.zero_le _⟩ [2] ?_ ?_
    · refine ⟨by rfl, by simp [z0], by simp [or_imp, forall_and, z0] <;> (try (intro _hne; simp [_hne])), by decide⟩
    rintro ⟨i, hi⟩ kq
    have w1 : IntKind.i64.wrap ((i : Int) + 1) = (i : Int) + 1 := wrap64_in (by omega)
    rw [hR] at hXr
    simp only [List.length_cons] at hXr
    by_cases hlt : i < l.length
    · have hii : (i : Int) < (o.length : Int) + 1 := by omega
      have v1 : IntKind.i64.wrap ((i : Int) + (t : Int)) = (i : Int) + (t : Int) := wrap64_in (by omega)
      have hPi := hP i hlt
      have hUi := hU i hlt
      obtain ⟨m, hm⟩ : ∃ m, m = (i + t) % l.length := ⟨_, rfl⟩
      have v2 : ((i : Int) + (t : Int)).tmod (l.length : Int) = (m : Int) := by
        rw [Int.tmod_eq_emod_of_nonneg (by omega), hm]
        first | rfl | exact (Int.natCast_mod _ _).symm | exact (Int.natCast_emod _ _).symm | simp
      rw [← hm] at hPi hUi
      have k1 := in_c Q (i : Int) (by omega)
      have k2 := in_c P (m : Int) hP6
      have k3 := in_c V (i : Int) (by omega)
      have k4 := in_c U (m : Int) hU6
      rw [hPi] at k1
      rw [hUi] at k3
      generalize decide ((m : Int) ∈ P) = x1 at *
      generalize decide ((m : Int) ∈ U) = x2 at *
      repeat (first | (with_reducible first | refine zq1 fun _ => ?_ | refine zq2 fun _ => ?_ | refine zq3 ?_) | ((first | refine zq4 ?_ | refine zq5 fun _ _ => ?_ | refine zq6 ?_); simp [-getElem?_pos, z0, z1, z2, hii, v0, v1, v2, hne, hnn]) | ((first | refine AWp.ret ?_ | refine AWp.skip ?_ | refine AWp.exit ?_); try simp only [thenP]) | (with_reducible refine zq7 ?_; simp only [blockP, thenP, reduceIte]) | with_reducible refine zq8 ?_)
      (first | refine Exec0.call [] k1 ?_ rfl ?_ ?_ | refine Exec.call [] k1 ?_ rfl ?_ ?_); (focus simp [-getElem?_pos, z0]); (focus simp [-getElem?_pos, z0, z1, z2, z0]); simp [-getElem?_pos, z0, z1, z2, z0]
      (first | refine Exec0.call [] k2 ?_ rfl ?_ ?_ | refine Exec.call [] k2 ?_ rfl ?_ ?_); (focus simp [-getElem?_pos, z0]); (focus simp [-getElem?_pos, z0, z1, z2, z0]); simp [-getElem?_pos, z0, z1, z2, z0]
      (first | refine Exec0.call [] k3 ?_ rfl ?_ ?_ | refine Exec.call [] k3 ?_ rfl ?_ ?_); (focus simp [-getElem?_pos, z0]); (focus simp [-getElem?_pos, z0, z1, z2, z0]); simp [-getElem?_pos, z0, z1, z2, z0]
      (first | refine Exec0.call [] k4 ?_ rfl ?_ ?_ | refine Exec.call [] k4 ?_ rfl ?_ ?_); (focus simp [-getElem?_pos, z0]); (focus simp [-getElem?_pos, z0, z1, z2, z0]); simp [-getElem?_pos, z0, z1, z2, z0]
      repeat (first | (with_reducible first | refine zq1 fun _ => ?_ | refine zq2 fun _ => ?_ | refine zq3 ?_) | ((first | refine zq4 ?_ | refine zq5 fun _ _ => ?_ | refine zq6 ?_); simp [-getElem?_pos, z0, z1, z2, w1]) | ((first | refine AWp.ret ?_ | refine AWp.skip ?_ | refine AWp.exit ?_); try simp only [thenP]) | (with_reducible refine zq7 ?_; simp only [blockP, thenP, reduceIte]) | with_reducible refine zq8 ?_)
      refine LL.go ⟨i + 1, hlt⟩ [0] ⟨by rfl, by simp [], by simp [or_imp, forall_and, ] <;> (try (intro _hne; simp [_hne])), by decide⟩ ?_
      simp; omega
    · obtain rfl : i = l.length := by omega
      have hii : ¬ (l.length : Int) < (o.length : Int) + 1 := by omega
      repeat (first | (with_reducible first | refine zq1 fun _ => ?_ | refine zq2 fun _ => ?_ | refine zq3 ?_) | ((first | refine zq4 ?_ | refine zq5 fun _ _ => ?_ | refine zq6 ?_); simp [-getElem?_pos, z0, z1, z2, hii]) | ((first | refine AWp.ret ?_ | refine AWp.skip ?_ | refine AWp.exit ?_); try simp only [thenP]) | (with_reducible refine zq7 ?_; simp only [blockP, thenP, reduceIte]) | with_reducible refine zq8 ?_)
      (first | refine Exec0.call [] cw ?_ rfl ?_ ?_ | refine Exec.call [] cw ?_ rfl ?_ ?_); (focus simp [-getElem?_pos, z0]); (focus simp [-getElem?_pos, z0, z1, z2, z0]); simp [-getElem?_pos, z0, z1, z2, z0]
      repeat (first | (with_reducible first | refine zq1 fun _ => ?_ | refine zq2 fun _ => ?_ | refine zq3 ?_) | ((first | refine zq4 ?_ | refine zq5 fun _ _ => ?_ | refine zq6 ?_); simp [-getElem?_pos, z0, z1, z2, z0]) | ((first | refine AWp.ret ?_ | refine AWp.skip ?_ | refine AWp.exit ?_); try simp only [thenP]) | (with_reducible refine zq7 ?_; simp only [blockP, thenP, reduceIte]) | with_reducible refine zq8 ?_)
      (first | refine RR.ret ?_ | refine RR.normal ?_); simp [z0]
end Go.Proofs.Ytcmkkgdjhjpldaa.Eng

namespace Go.Proofs.Ytcmkkgdjhjpldaa.honeOrders
open Go.ChangeShapes Go.WideShapes Go.ChangeAt Go.RowKit Go.Deep
theorem own : ownKnob Try.prog.godebug = none := by kernel_rfl
theorem kids : Kids Try.prog (· < Try.prog.types.size) := kids_rows (by kernel_rfl) (by kernel_rfl)
theorem full : ∀ t e, t < Try.prog.types.size → Try.prog.underlying t = some (.slice e) → 0 < Try.prog.cellsOf e := slices_full_of Try.prog (by kernel_rfl)
theorem rowed : ∀ t ∈ Try.f13.params.toList, t < Try.prog.types.size := of_decide_eq_true (by kernel_rfl)
set_option maxRecDepth 100000 in
set_option maxHeartbeats 1000000 in
theorem lifted (os : Os) (started : os.Started) (H : Type) (enc : TypeId × Value → H) :
    ReturnsInHanded {} Try.checked os 13 .any (Rows.honeOrdersSpec.pre6 enc Try.prog Try.f13 Rows.honeOrdersRow.domain false) (Rows.honeOrdersSpec.post enc Try.prog Try.f13 false true false false) := by
  refine returnsInHanded_of_change (C := Try.checked) own started (by kernel_rfl) Try.func13
    (ChangeSpec.witness6 (enc := enc) (C := Try.checked) false ⟨#[], #[.slice none 0 0, .agg #[.int .i64 0, .int .i64 0], .agg #[.int .i64 0, .int .i64 0], .int .u8 0], []⟩ 8 (by kernel_rfl) (by kernel_rfl) (by kernel_rfl) (by kernel_rfl)) ?_
  intro W base args ds gs before hval0 hW hcnd _
  have hval : ∀ (j : Nat) t v, Try.f13.params[j]? = some t → args[j]? = some v → Value.okWide Try.prog W .any base t v := hval0
  have hW' := hW
  obtain ⟨p, q, hA0, hV, rfl, hfz, hnd⟩ := hW
  have hA : DataW.TrodAll enc Try.prog W 0 (fun _ => true) true Try.f13.params.toList args.toList ds p := hA0
  have hAk := hA
  rw [Try.params13] at hA hval
  obtain ⟨v0, vs0, d0, ds0, a0, b0, e0, f0, rfl, h0, t0⟩ := trodAll_cons hA
  obtain ⟨v1, vs1, d1, ds1, a1, b1, e1, f1, rfl, h1, t1⟩ := trodAll_cons t0
  obtain ⟨v2, vs2, d2, ds2, a2, b2, e2, f2, rfl, h2, t2⟩ := trodAll_cons t1
  obtain ⟨v3, vs3, d3, ds3, a3, b3, e3, f3, rfl, h3, t3⟩ := trodAll_cons t2
  obtain ⟨en, fn, rfl⟩ := trodAll_nil t3
  subst en
  subst fn
  subst e3
  subst f3
  subst e2
  subst f2
  subst e1
  subst f1
  subst f0
  have ea : args = #[v0, v1, v2, v3] := by rw [← Array.toList_inj]; exact e0
  subst ea
  clear e0
  obtain ⟨rfl, rfl⟩ := trodVars_none hV
  clear hA0 hval0 hA
  simp only [List.append_nil] at hW' hAk
  have o0 := hval 0 _ _ rfl rfl
  have o1 := hval 1 _ _ rfl rfl
  have o2 := hval 2 _ _ rfl rfl
  have o3 := hval 3 _ _ rfl rfl
  clear hval
  obtain ⟨D0, s0, r0⟩ := Eng.open_sh (n := 9) (.sl Eng.shStone) (by kernel_rfl) o0 h0
  obtain ⟨D1, s1, r1⟩ := Eng.open_sh (n := 9) (Eng.shEdge) (by kernel_rfl) o1 h1
  obtain ⟨D2, s2, r2⟩ := Eng.open_sh (n := 9) (Eng.shEdge) (by kernel_rfl) o2 h2
  obtain ⟨D3, s3, r3⟩ := Eng.open_sh (n := 9) (.int .u8) (by kernel_rfl) o3 h3
  obtain ⟨l, rfl⟩ := Eng.box_in s0
  obtain ⟨e, rfl⟩ := Eng.edge_in s1
  obtain ⟨g, rfl⟩ := Eng.edge_in s2
  obtain ⟨k, rfl, hk⟩ := Eng.u8_in s3
  refine Calls.mono (Eng.law_true (Eng.honeOrders_c l e g k hk) rfl (Eng.reps_cons r0 (Eng.reps_cons r1 (Eng.reps_cons r2 (Eng.reps_cons r3 Eng.reps_nil))))) fun e W' ⟨he, hb⟩ => ?_
  subst he
  exact ⟨_, rfl, post_later (pv := []) hW' (List.append_nil _).symm (fun _ _ _ => (trodAll_cons_mk (shut_bool Try.underlying4 _) trodAll_mk0))
    (fun sp hsp => Eng.args_later' kids full rowed hAk hb hsp) (fun _ _ => rfl) (ok_one (by kernel_rfl) rfl (okWide_bool_mk Try.underlying4 _)) hb⟩
theorem over : Rows.honeOrdersRow.holds Try.pinned (OpenSpec.ofChange Rows.honeOrdersSpec) :=
  OpenClaim.holds_of_wide 13 Try.f13 rfl rfl rfl rfl rfl rfl rfl ⟨rfl, rfl, rfl, rfl, rfl⟩ rfl rfl rfl rfl rfl (by kernel_rfl) Try.func13 (by kernel_rfl)
    (of_decide_eq_true (by kernel_rfl)) (by unfold Func.isWrapper; first | (rw [if_pos (by decide +kernel)]; kernel_rfl) | (rw [if_neg (by decide +kernel)]; exact ⟨rfl, rfl⟩))
    (fun os started H enc _ => lifted os started H enc)
theorem proved : Rows.HoneOrdersSaid := over
end Go.Proofs.Ytcmkkgdjhjpldaa.honeOrders
