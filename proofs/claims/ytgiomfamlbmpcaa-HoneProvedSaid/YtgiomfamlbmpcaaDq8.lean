/-
  HoneProved returns true, for every box, edge, goal, strokes and rows: no strokes that reach a goal are fewer than rows that prove so; the strokes that are returned reach it, and are as many as the rows that are returned, which prove that no fewer do. No condition.
-/
import Derived.Test.YtgiomfamlbmpcaaDq7
set_option linter.unusedSimpArgs false
set_option linter.unusedVariables false
noncomputable section
namespace Go.Proofs.Ytgiomfamlbmpcaa.Eng
open Go.RowKit
set_option maxRecDepth 100000
set_option maxHeartbeats 32000000
theorem lists_in {d : Dat} (h : (Sh.sl (.sl (.int .i64))).D d) : ∃ Ls : List (List Int), d = .list (listsD Ls) := by
  obtain ⟨rows, rfl, hr⟩ := h
  obtain ⟨l, rfl⟩ := rows_of (f := fun L : List Int => [intL L]) fun x hx => by
    obtain ⟨rws, rfl, hd⟩ := hr x hx
    obtain ⟨L, hL⟩ := ints_in (d := .list rws) ⟨rws, rfl, hd⟩
    exact ⟨L, by rw [hL]; rfl⟩
  exact ⟨l, rfl⟩
def longB (Ls : List (List Int)) : Bool := decide ((60 < Ls.length ∧ Ls.length ≤ 800) ∨ 810 < Ls.length) || Ls.any fun L => decide (10 < L.length)
theorem long_c (Ls : List (List Int)) : ACall Try.prog 24 [.list (listsD Ls)] (bD (longB Ls)) := by
  obtain ⟨r, hr⟩ : ∃ r, r = longB Ls := ⟨_, rfl⟩
  rw [← hr]
  have hll : (listsD Ls).length = Ls.length := by simp [listsD]
  by_cases h1 : 60 < Ls.length ∧ Ls.length ≤ 800
  · have hr' : r = true := by rw [hr, longB, decide_eq_true (.inl h1)]; rfl
    have i1 : (60 : Int) < Ls.length := by omega
    have i2 : (Ls.length : Int) ≤ 800 := by omega
    refine acallK tabOk Try.func24 rfl rfl (show 1 ≤ _ by decide) rfl fun _ => ?_; simp only [Try.ntmps24]
    repeat (first | (with_reducible first | refine zq1 fun _ => ?_ | refine zq2 fun _ => ?_ | refine zq3 ?_) | ((first | refine zq4 ?_ | refine zq5 fun _ _ => ?_ | refine zq6 ?_); simp [-getElem?_pos, z0, z1, z2, hll, h1, i1, i2]) | ((first | refine AWp.ret ?_ | refine AWp.skip ?_ | refine AWp.exit ?_); try simp only [thenP]) | (with_reducible refine zq7 ?_; simp only [blockP, thenP, reduceIte]) | with_reducible refine zq8 ?_)
    (first | refine RR.ret ?_ | refine RR.normal ?_); simp [hr', hll, h1, i1, i2]
  by_cases h2 : 810 < Ls.length
  · have hr' : r = true := by rw [hr, longB, decide_eq_true (.inr h2)]; rfl
    have i1 : (810 : Int) < Ls.length := by omega
    have i2 : ¬ (Ls.length : Int) ≤ 800 := by omega
    have i3 : (60 : Int) < Ls.length := by omega
    refine acallK tabOk Try.func24 rfl rfl (show 1 ≤ _ by decide) rfl fun _ => ?_; simp only [Try.ntmps24]
    repeat (first | (with_reducible first | refine zq1 fun _ => ?_ | refine zq2 fun _ => ?_ | refine zq3 ?_) | ((first | refine zq4 ?_ | refine zq5 fun _ _ => ?_ | refine zq6 ?_); simp [-getElem?_pos, z0, z1, z2, hll, h2, i1, i2, i3]) | ((first | refine AWp.ret ?_ | refine AWp.skip ?_ | refine AWp.exit ?_); try simp only [thenP]) | (with_reducible refine zq7 ?_; simp only [blockP, thenP, reduceIte]) | with_reducible refine zq8 ?_)
    (first | refine RR.ret ?_ | refine RR.normal ?_); simp [hr', hll, h2, i1, i2, i3]
  have hA : longB Ls = Ls.any fun L => decide (10 < L.length) := by rw [longB, decide_eq_false (by omega), Bool.false_or]
  rw [hA] at hr
  have i2 : ¬ (810 : Int) < Ls.length := by omega
  have hbool : (if (60 : Int) < Ls.length then SV.d (.val (.bool (decide ((Ls.length : Int) ≤ 800)))) else SV.d (.val (.bool false))) = SV.d (.val (.bool false)) := by
    split
    · rw [decide_eq_false (by omega)]
    · rfl
  refine ?_
  by_cases h60 : 60 < Ls.length
  · have i1 : (60 : Int) < Ls.length := by omega
    have i3 : ¬ (Ls.length : Int) ≤ 800 := by omega
    refine acallK tabOk Try.func24 rfl rfl (show 1 ≤ _ by decide) rfl fun _ => ?_; simp only [Try.ntmps24]
    repeat (first | (with_reducible first | refine zq1 fun _ => ?_ | refine zq2 fun _ => ?_ | refine zq3 ?_) | ((first | refine zq4 ?_ | refine zq5 fun _ _ => ?_ | refine zq6 ?_); simp [-getElem?_pos, z0, z1, z2, hll, h60, i1, i2, i3]) | ((first | refine AWp.ret ?_ | refine AWp.skip ?_ | refine AWp.exit ?_); try simp only [thenP]) | (with_reducible refine zq7 ?_; simp only [blockP, thenP, reduceIte]) | with_reducible refine zq8 ?_)
    refine AWp.loopK (ι := { k : Nat // k ≤ Ls.length ∧ ((Ls.take k).any fun L => decide (10 < L.length)) = false }) (n := 0) (fun k => [(0, .d (.list (listsD Ls))), (3, .d (iD k.1))]) (fun _ => []) (fun k => Ls.length - k.1) ⟨0, Nat.zero_le _, by simp⟩ [] ?_ ?_
    · refine ⟨by rfl, by simp [], by simp [or_imp, forall_and, ] <;> (try (intro _hne; simp [_hne])), by decide⟩
    rintro ⟨k, hk, hall⟩ kk
    have w1 : IntKind.i64.wrap ((k : Int) + 1) = (k : Int) + 1 := wrap64_in (by omega)
    by_cases hlt : k < Ls.length
    · obtain ⟨L, hL⟩ : ∃ L, Ls[k]? = some L := ⟨_, List.getElem?_eq_getElem hlt⟩
      have hD : (listsD Ls)[k]? = some [intL L] := by rw [listsD, List.getElem?_map, hL]; rfl
      by_cases g : 10 < L.length
      · have gi : (10 : Int) < L.length := by omega
        have hr' : r = true := by rw [hr, List.any_eq_true]; exact ⟨L, List.mem_of_getElem? hL, decide_eq_true g⟩
        repeat (first | (with_reducible first | refine zq1 fun _ => ?_ | refine zq2 fun _ => ?_ | refine zq3 ?_) | ((first | refine zq4 ?_ | refine zq5 fun _ _ => ?_ | refine zq6 ?_); simp [-getElem?_pos, z0, z1, z2, hll, hlt, hD, g, gi]) | ((first | refine AWp.ret ?_ | refine AWp.skip ?_ | refine AWp.exit ?_); try simp only [thenP]) | (with_reducible refine zq7 ?_; simp only [blockP, thenP, reduceIte]) | with_reducible refine zq8 ?_)
        (first | refine RR.ret ?_ | refine RR.normal ?_); simp [hr']
      · have gi : ¬ (10 : Int) < L.length := by omega
        have hall2 : ((Ls.take (k + 1)).any fun L => decide (10 < L.length)) = false := by
          rw [List.take_add_one, List.any_append, hall, hL]
          simp [g]
        repeat (first | (with_reducible first | refine zq1 fun _ => ?_ | refine zq2 fun _ => ?_ | refine zq3 ?_) | ((first | refine zq4 ?_ | refine zq5 fun _ _ => ?_ | refine zq6 ?_); simp [-getElem?_pos, z0, z1, z2, hll, hlt, hD, g, gi, w1]) | ((first | refine AWp.ret ?_ | refine AWp.skip ?_ | refine AWp.exit ?_); try simp only [thenP]) | (with_reducible refine zq7 ?_; simp only [blockP, thenP, reduceIte]) | with_reducible refine zq8 ?_)
        refine LL.go ⟨k + 1, hlt, hall2⟩ [] ⟨by rfl, by simp [], by simp [or_imp, forall_and, ] <;> (try (intro _hne; simp [_hne])), by decide⟩ ?_
        simp; omega
    · obtain rfl : k = Ls.length := by omega
      have hr' : r = false := hr.trans (by rwa [List.take_of_length_le (Nat.le_refl _)] at hall)
      repeat (first | (with_reducible first | refine zq1 fun _ => ?_ | refine zq2 fun _ => ?_ | refine zq3 ?_) | ((first | refine zq4 ?_ | refine zq5 fun _ _ => ?_ | refine zq6 ?_); simp [-getElem?_pos, z0, z1, z2, hll, hlt]) | ((first | refine AWp.ret ?_ | refine AWp.skip ?_ | refine AWp.exit ?_); try simp only [thenP]) | (with_reducible refine zq7 ?_; simp only [blockP, thenP, reduceIte]) | with_reducible refine zq8 ?_)
      (first | refine RR.ret ?_ | refine RR.normal ?_); simp [hr']
  · have i1 : ¬ (60 : Int) < Ls.length := by omega
    refine acallK tabOk Try.func24 rfl rfl (show 1 ≤ _ by decide) rfl fun _ => ?_; simp only [Try.ntmps24]
    repeat (first | (with_reducible first | refine zq1 fun _ => ?_ | refine zq2 fun _ => ?_ | refine zq3 ?_) | ((first | refine zq4 ?_ | refine zq5 fun _ _ => ?_ | refine zq6 ?_); simp [-getElem?_pos, z0, z1, z2, hll, h60, i1, i2]) | ((first | refine AWp.ret ?_ | refine AWp.skip ?_ | refine AWp.exit ?_); try simp only [thenP]) | (with_reducible refine zq7 ?_; simp only [blockP, thenP, reduceIte]) | with_reducible refine zq8 ?_)
    refine AWp.loopK (ι := { k : Nat // k ≤ Ls.length ∧ ((Ls.take k).any fun L => decide (10 < L.length)) = false }) (n := 0) (fun k => [(0, .d (.list (listsD Ls))), (3, .d (iD k.1))]) (fun _ => []) (fun k => Ls.length - k.1) ⟨0, Nat.zero_le _, by simp⟩ [] ?_ ?_
    · refine ⟨by rfl, by simp [], by simp [or_imp, forall_and, ] <;> (try (intro _hne; simp [_hne])), by decide⟩
    rintro ⟨k, hk, hall⟩ kk
    have w1 : IntKind.i64.wrap ((k : Int) + 1) = (k : Int) + 1 := wrap64_in (by omega)
    by_cases hlt : k < Ls.length
    · obtain ⟨L, hL⟩ : ∃ L, Ls[k]? = some L := ⟨_, List.getElem?_eq_getElem hlt⟩
      have hD : (listsD Ls)[k]? = some [intL L] := by rw [listsD, List.getElem?_map, hL]; rfl
      by_cases g : 10 < L.length
      · have gi : (10 : Int) < L.length := by omega
        have hr' : r = true := by rw [hr, List.any_eq_true]; exact ⟨L, List.mem_of_getElem? hL, decide_eq_true g⟩
        repeat (first | (with_reducible first | refine zq1 fun _ => ?_ | refine zq2 fun _ => ?_ | refine zq3 ?_) | ((first | refine zq4 ?_ | refine zq5 fun _ _ => ?_ | refine zq6 ?_); simp [-getElem?_pos, z0, z1, z2, hll, hlt, hD, g, gi]) | ((first | refine AWp.ret ?_ | refine AWp.skip ?_ | refine AWp.exit ?_); try simp only [thenP]) | (with_reducible refine zq7 ?_; simp only [blockP, thenP, reduceIte]) | with_reducible refine zq8 ?_)
        (first | refine RR.ret ?_ | refine RR.normal ?_); simp [hr']
      · have gi : ¬ (10 : Int) < L.length := by omega
        have hall2 : ((Ls.take (k + 1)).any fun L => decide (10 < L.length)) = false := by
          rw [List.take_add_one, List.any_append, hall, hL]
          simp [g]
        repeat (first | (with_reducible first | refine zq1 fun _ => ?_ | refine zq2 fun _ => ?_ | refine zq3 ?_) | ((first | refine zq4 ?_ | refine zq5 fun _ _ => ?_ | refine zq6 ?_); simp [-getElem?_pos, z0, z1, z2, hll, hlt, hD, g, gi, w1]) | ((first | refine AWp.ret ?_ | refine AWp.skip ?_ | refine AWp.exit ?_); try simp only [thenP]) | (with_reducible refine zq7 ?_; simp only [blockP, thenP, reduceIte]) | with_reducible refine zq8 ?_)
        refine LL.go ⟨k + 1, hlt, hall2⟩ [] ⟨by rfl, by simp [], by simp [or_imp, forall_and, ] <;> (try (intro _hne; simp [_hne])), by decide⟩ ?_
        simp; omega
    · obtain rfl : k = Ls.length := by omega
      have hr' : r = false := hr.trans (by rwa [List.take_of_length_le (Nat.le_refl _)] at hall)
      repeat (first | (with_reducible first | refine zq1 fun _ => ?_ | refine zq2 fun _ => ?_ | refine zq3 ?_) | ((first | refine zq4 ?_ | refine zq5 fun _ _ => ?_ | refine zq6 ?_); simp [-getElem?_pos, z0, z1, z2, hll, hlt]) | ((first | refine AWp.ret ?_ | refine AWp.skip ?_ | refine AWp.exit ?_); try simp only [thenP]) | (with_reducible refine zq7 ?_; simp only [blockP, thenP, reduceIte]) | with_reducible refine zq8 ?_)
      (first | refine RR.ret ?_ | refine RR.normal ?_); simp [hr']
theorem rows_le {l : List HS} {e g : HE} (h0 : chkErr l [e, g] = 0) {Ls : List (List Int)} (hc : chkRows l e g Ls = 0) {t : List Int} {x : HE} (hr : runE l t e = some x) (hx : keenB x g = true) : Ls.length ≤ t.length := by
  obtain ⟨hb, hes⟩ := chkOk h0
  have gg := goodE (e := g) (by simp at hes; exact hes.2)
  have ge := goodE (e := e) (by simp at hes; exact hes.1)
  rw [chkRows, if_pos h0] at hc
  split at hc
  · cases hc
  split at hc
  · split at hc
    · rename_i hp
      refine Nat.not_lt.1 fun hlt => ?_
      obtain ⟨L, hL⟩ : ∃ L, Ls[t.length]? = some L := ⟨_, List.getElem?_eq_getElem hlt⟩
      have hok : ∀ r ∈ Ls.map rowOfR, rowOk r := fun r hr => by
        obtain ⟨L, -, rfl⟩ := List.mem_map.1 hr
        exact rowOfR_ok L
      have := prove_has hb.all _ _ 0 hok hp (Has.first gg) t.length (rowOfR L) (by rw [List.getElem?_map, hL]; rfl)
      rw [Nat.zero_add] at this
      rw [this.1 e ge t x rfl hr hx] at this
      cases this.2
    · cases hc
  · cases hc
structure Best (l : List HS) (e g : HE) (k : Nat) : Prop where
  len : (bestO l e g).length = k
  k800 : k ≤ 800
  aft : aftE l e (bestO l e g) = 0
  keen : keenB (aftR l e (bestO l e g)) g = true
theorem best_of {l : List HS} {e g : HE} (h0 : chkErr l [e, g] = 0) {k : Nat} (hn : needN l g e = some k) : Best l e g k := by
  obtain ⟨hb, hes⟩ := chkOk h0
  have gg := goodE (e := g) (by simp at hes; exact hes.2)
  have ge := goodE (e := e) (by simp at hes; exact hes.1)
  have hl := hb.all
  obtain ⟨hk1, hk2⟩ := rows_take hn
  obtain ⟨m, hm⟩ := rows_are hl gg
  have hkm : k ≤ m + 1 := by rw [List.length_take, hm.len] at hk1; omega
  obtain ⟨h1, h2⟩ := (need_some hl gg ge).1 hn
  obtain ⟨a1, a2, x, a3, a4⟩ := best_run hl gg (rs := (rowsG l g).take k) k e ge (fun i hi => by rw [List.getElem?_take, if_pos hi, hm.get i (by omega)]) h1 h2
  have hO : bestO l e g = bestG l ((rowsG l g).take k) k e := by rw [bestO, if_pos h0, hn]
  have hf : ¬ fromK 0 ((l.length : Int) - 1) (bestG l ((rowsG l g).take k) k e) = false := by rw [a2]; simp
  refine ⟨by rw [hO, a1], hk2, ?_, ?_⟩
  · rw [hO, aftE, if_pos (chk_goal h0).2, if_neg (by omega), if_neg hf, a3]
  · rw [hO, aftR, if_pos (chk_goal h0).2, if_neg (by omega), if_neg hf, a3]
    exact a4
theorem rowsO_short (l : List HS) (e g : HE) : ∀ L ∈ rowsO l e g, L.length ≤ 1000000 := by
  intro L hL
  rw [rowsO] at hL
  split at hL
  · split at hL
    · obtain ⟨f, -, rfl⟩ := List.mem_map.1 hL
      simp [rowL]
    · cases hL
  · cases hL
theorem honeProved_c (l : List HS) (e g : HE) (t : List Int) (Ls : List (List Int)) : ACall Try.prog 8 [boxD l, edgD e, edgD g, intL t, .list (listsD Ls)] (bD true) := by
  have cf := fine_c l e g
  have cw := works_call
  rcases hf : fineB l e g <;> rw [hf] at cf
  · refine acallK tabOk Try.func8 rfl rfl (show 5 ≤ _ by decide) rfl fun _ => ?_; simp only [Try.ntmps8]
    repeat (first | (with_reducible first | refine zq1 fun _ => ?_ | refine zq2 fun _ => ?_ | refine zq3 ?_) | ((first | refine zq4 ?_ | refine zq5 fun _ _ => ?_ | refine zq6 ?_); simp [-getElem?_pos, z0, z1, z2, z0]) | ((first | refine AWp.ret ?_ | refine AWp.skip ?_ | refine AWp.exit ?_); try simp only [thenP]) | (with_reducible refine zq7 ?_; simp only [blockP, thenP, reduceIte]) | with_reducible refine zq8 ?_)
    (first | refine Exec0.call [] cf ?_ rfl ?_ ?_ | refine Exec.call [] cf ?_ rfl ?_ ?_); (focus simp [-getElem?_pos, z0]); (focus simp [-getElem?_pos, z0, z1, z2, z0]); simp [-getElem?_pos, z0, z1, z2, z0]
    repeat (first | (with_reducible first | refine zq1 fun _ => ?_ | refine zq2 fun _ => ?_ | refine zq3 ?_) | ((first | refine zq4 ?_ | refine zq5 fun _ _ => ?_ | refine zq6 ?_); simp [-getElem?_pos, z0, z1, z2, z0]) | ((first | refine AWp.ret ?_ | refine AWp.skip ?_ | refine AWp.exit ?_); try simp only [thenP]) | (with_reducible refine zq7 ?_; simp only [blockP, thenP, reduceIte]) | with_reducible refine zq8 ?_)
    (first | refine Exec0.call [] cw ?_ rfl ?_ ?_ | refine Exec.call [] cw ?_ rfl ?_ ?_); (focus simp [-getElem?_pos, z0]); (focus simp [-getElem?_pos, z0, z1, z2, z0]); simp [-getElem?_pos, z0, z1, z2, z0]
    repeat (first | (with_reducible first | refine zq1 fun _ => ?_ | refine zq2 fun _ => ?_ | refine zq3 ?_) | ((first | refine zq4 ?_ | refine zq5 fun _ _ => ?_ | refine zq6 ?_); simp [-getElem?_pos, z0, z1, z2, z0]) | ((first | refine AWp.ret ?_ | refine AWp.skip ?_ | refine AWp.exit ?_); try simp only [thenP]) | (with_reducible refine zq7 ?_; simp only [blockP, thenP, reduceIte]) | with_reducible refine zq8 ?_)
    (first | refine RR.ret ?_ | refine RR.normal ?_); simp [z0]
  rw [fineB, Bool.and_eq_true, decide_eq_true_eq, decide_eq_true_eq] at hf
  have h0 := hf.2
  have cL := long_c Ls
  by_cases g1 : 800 < t.length
  · have g1i : (800 : Int) < t.length := by omega
    refine acallK tabOk Try.func8 rfl rfl (show 5 ≤ _ by decide) rfl fun _ => ?_; simp only [Try.ntmps8]
    repeat (first | (with_reducible first | refine zq1 fun _ => ?_ | refine zq2 fun _ => ?_ | refine zq3 ?_) | ((first | refine zq4 ?_ | refine zq5 fun _ _ => ?_ | refine zq6 ?_); simp [-getElem?_pos, z0, z1, z2, z0]) | ((first | refine AWp.ret ?_ | refine AWp.skip ?_ | refine AWp.exit ?_); try simp only [thenP]) | (with_reducible refine zq7 ?_; simp only [blockP, thenP, reduceIte]) | with_reducible refine zq8 ?_)
    (first | refine Exec0.call [] cf ?_ rfl ?_ ?_ | refine Exec.call [] cf ?_ rfl ?_ ?_); (focus simp [-getElem?_pos, g1, g1i]); (focus simp [-getElem?_pos, z0, z1, z2, g1, g1i]); simp [-getElem?_pos, z0, z1, z2, g1, g1i]
    repeat (first | (with_reducible first | refine zq1 fun _ => ?_ | refine zq2 fun _ => ?_ | refine zq3 ?_) | ((first | refine zq4 ?_ | refine zq5 fun _ _ => ?_ | refine zq6 ?_); simp [-getElem?_pos, z0, z1, z2, g1, g1i]) | ((first | refine AWp.ret ?_ | refine AWp.skip ?_ | refine AWp.exit ?_); try simp only [thenP]) | (with_reducible refine zq7 ?_; simp only [blockP, thenP, reduceIte]) | with_reducible refine zq8 ?_)
    (first | refine Exec0.call [] cw ?_ rfl ?_ ?_ | refine Exec.call [] cw ?_ rfl ?_ ?_); (focus simp [-getElem?_pos, z0]); (focus simp [-getElem?_pos, z0, z1, z2, z0]); simp [-getElem?_pos, z0, z1, z2, z0]
    repeat (first | (with_reducible first | refine zq1 fun _ => ?_ | refine zq2 fun _ => ?_ | refine zq3 ?_) | ((first | refine zq4 ?_ | refine zq5 fun _ _ => ?_ | refine zq6 ?_); simp [-getElem?_pos, z0, z1, z2, z0]) | ((first | refine AWp.ret ?_ | refine AWp.skip ?_ | refine AWp.exit ?_); try simp only [thenP]) | (with_reducible refine zq7 ?_; simp only [blockP, thenP, reduceIte]) | with_reducible refine zq8 ?_)
    (first | refine RR.ret ?_ | refine RR.normal ?_); simp [z0]
  have g1i : ¬ (800 : Int) < t.length := by omega
  rcases hLg : longB Ls <;> rw [hLg] at cL
  rotate_left
  · refine acallK tabOk Try.func8 rfl rfl (show 5 ≤ _ by decide) rfl fun _ => ?_; simp only [Try.ntmps8]
    repeat (first | (with_reducible first | refine zq1 fun _ => ?_ | refine zq2 fun _ => ?_ | refine zq3 ?_) | ((first | refine zq4 ?_ | refine zq5 fun _ _ => ?_ | refine zq6 ?_); simp [-getElem?_pos, z0, z1, z2, z0]) | ((first | refine AWp.ret ?_ | refine AWp.skip ?_ | refine AWp.exit ?_); try simp only [thenP]) | (with_reducible refine zq7 ?_; simp only [blockP, thenP, reduceIte]) | with_reducible refine zq8 ?_)
    (first | refine Exec0.call [] cf ?_ rfl ?_ ?_ | refine Exec.call [] cf ?_ rfl ?_ ?_); (focus simp [-getElem?_pos, g1, g1i]); (focus simp [-getElem?_pos, z0, z1, z2, g1, g1i]); simp [-getElem?_pos, z0, z1, z2, g1, g1i]
    (first | refine Exec0.call [] cL ?_ rfl ?_ ?_ | refine Exec.call [] cL ?_ rfl ?_ ?_); (focus simp [-getElem?_pos, z0]); (focus simp [-getElem?_pos, z0, z1, z2, z0]); simp [-getElem?_pos, z0, z1, z2, z0]
    repeat (first | (with_reducible first | refine zq1 fun _ => ?_ | refine zq2 fun _ => ?_ | refine zq3 ?_) | ((first | refine zq4 ?_ | refine zq5 fun _ _ => ?_ | refine zq6 ?_); simp [-getElem?_pos, z0, z1, z2, z0]) | ((first | refine AWp.ret ?_ | refine AWp.skip ?_ | refine AWp.exit ?_); try simp only [thenP]) | (with_reducible refine zq7 ?_; simp only [blockP, thenP, reduceIte]) | with_reducible refine zq8 ?_)
    (first | refine Exec0.call [] cw ?_ rfl ?_ ?_ | refine Exec.call [] cw ?_ rfl ?_ ?_); (focus simp [-getElem?_pos, z0]); (focus simp [-getElem?_pos, z0, z1, z2, z0]); simp [-getElem?_pos, z0, z1, z2, z0]
    repeat (first | (with_reducible first | refine zq1 fun _ => ?_ | refine zq2 fun _ => ?_ | refine zq3 ?_) | ((first | refine zq4 ?_ | refine zq5 fun _ _ => ?_ | refine zq6 ?_); simp [-getElem?_pos, z0, z1, z2, z0]) | ((first | refine AWp.ret ?_ | refine AWp.skip ?_ | refine AWp.exit ?_); try simp only [thenP]) | (with_reducible refine zq7 ?_; simp only [blockP, thenP, reduceIte]) | with_reducible refine zq8 ?_)
    (first | refine RR.ret ?_ | refine RR.normal ?_); simp [z0]
  rw [longB, Bool.or_eq_false_iff, decide_eq_false_iff_not] at hLg
  have hLs : ∀ L ∈ Ls, L.length ≤ 1000000 := fun L hL => by
    have := List.any_eq_false.1 hLg.2 L hL
    simp at this
    omega
  have hLen : Ls.length ≤ 810 := by omega
  have hll : (listsD Ls).length = Ls.length := by simp [listsD]
  have cb := best_c l e g
  have cr := rows_c l e g
  have ca := after_c l e t (by omega)
  have hdone : ∀ k, needN l g e = some k → aftE l e t = 0 → keenB (aftR l e t) g = true → k ≤ t.length := fun k hk ha hx => by
    obtain ⟨k2, h1, h2⟩ := reached_need h0 ha hx
    rw [hk] at h1
    cases h1
    exact h2
  have hdone2 : aftE l e t = 0 → keenB (aftR l e t) g = true → chkRows l e g Ls = 0 → Ls.length ≤ t.length := fun ha hx hc => rows_le h0 hc (aft_run ha).1 hx
  have hno : needN l g e = none → aftE l e t = 0 → keenB (aftR l e t) g = true → False := fun hn ha hx => (reached_need h0 ha hx).elim fun k h => absurd (h.1.symm.trans hn) (by simp)
  have ck := refKeen_c (aftR l e t) g
  generalize hx : aftR l e t = x at ca hdone hdone2 hno ck
  generalize ha : aftE l e t = a at ca hdone hdone2 hno
  obtain ⟨x1, x2⟩ := x
  cases hn : needN l g e with
  | none =>
    have hre : reachE l g e = 13 := by rw [reachE, if_pos h0, hn]
    have hBo : bestO l e g = [] := by rw [bestO, if_pos h0, hn]
    have hRo : rowsO l e g = [] := rowsO_no (by rw [hre]; decide)
    rw [hre, hBo, show intL [] = .list [] from rfl] at cb
    rw [hre, hRo, show listsD [] = [] from rfl] at cr
    by_cases ha0 : a = 0
    · subst ha0
      have hk : keenB ⟨x1, x2⟩ g = false := by
        cases hk : keenB ⟨x1, x2⟩ g with
        | false => rfl
        | true => exact (hno hn rfl hk).elim
      rw [hk] at ck
      refine acallK tabOk Try.func8 rfl rfl (show 5 ≤ _ by decide) rfl fun _ => ?_; simp only [Try.ntmps8]
      repeat (first | (with_reducible first | refine zq1 fun _ => ?_ | refine zq2 fun _ => ?_ | refine zq3 ?_) | ((first | refine zq4 ?_ | refine zq5 fun _ _ => ?_ | refine zq6 ?_); simp [-getElem?_pos, z0, z1, z2, z0]) | ((first | refine AWp.ret ?_ | refine AWp.skip ?_ | refine AWp.exit ?_); try simp only [thenP]) | (with_reducible refine zq7 ?_; simp only [blockP, thenP, reduceIte]) | with_reducible refine zq8 ?_)
      (first | refine Exec0.call [] cf ?_ rfl ?_ ?_ | refine Exec.call [] cf ?_ rfl ?_ ?_); (focus simp [-getElem?_pos, g1, g1i]); (focus simp [-getElem?_pos, z0, z1, z2, g1, g1i]); simp [-getElem?_pos, z0, z1, z2, g1, g1i]
      (first | refine Exec0.call [] cL ?_ rfl ?_ ?_ | refine Exec.call [] cL ?_ rfl ?_ ?_); (focus simp [-getElem?_pos, z0]); (focus simp [-getElem?_pos, z0, z1, z2, z0]); simp [-getElem?_pos, z0, z1, z2, z0]
      repeat (first | (with_reducible first | refine zq1 fun _ => ?_ | refine zq2 fun _ => ?_ | refine zq3 ?_) | ((first | refine zq4 ?_ | refine zq5 fun _ _ => ?_ | refine zq6 ?_); simp [-getElem?_pos, z0, z1, z2, z0]) | ((first | refine AWp.ret ?_ | refine AWp.skip ?_ | refine AWp.exit ?_); try simp only [thenP]) | (with_reducible refine zq7 ?_; simp only [blockP, thenP, reduceIte]) | with_reducible refine zq8 ?_)
      (first | refine Exec0.call [] cb ?_ rfl ?_ ?_ | refine Exec.call [] cb ?_ rfl ?_ ?_); (focus simp [-getElem?_pos, z0]); (focus simp [-getElem?_pos, z0, z1, z2, z0]); simp [-getElem?_pos, z0, z1, z2, z0]
      repeat (first | (with_reducible first | refine zq1 fun _ => ?_ | refine zq2 fun _ => ?_ | refine zq3 ?_) | ((first | refine zq4 ?_ | refine zq5 fun _ _ => ?_ | refine zq6 ?_); simp [-getElem?_pos, z0, z1, z2, z0]) | ((first | refine AWp.ret ?_ | refine AWp.skip ?_ | refine AWp.exit ?_); try simp only [thenP]) | (with_reducible refine zq7 ?_; simp only [blockP, thenP, reduceIte]) | with_reducible refine zq8 ?_)
      (first | refine Exec0.call [] cr ?_ rfl ?_ ?_ | refine Exec.call [] cr ?_ rfl ?_ ?_); (focus simp [-getElem?_pos, z0]); (focus simp [-getElem?_pos, z0, z1, z2, z0]); simp [-getElem?_pos, z0, z1, z2, z0]
      repeat (first | (with_reducible first | refine zq1 fun _ => ?_ | refine zq2 fun _ => ?_ | refine zq3 ?_) | ((first | refine zq4 ?_ | refine zq5 fun _ _ => ?_ | refine zq6 ?_); simp [-getElem?_pos, z0, z1, z2, z0]) | ((first | refine AWp.ret ?_ | refine AWp.skip ?_ | refine AWp.exit ?_); try simp only [thenP]) | (with_reducible refine zq7 ?_; simp only [blockP, thenP, reduceIte]) | with_reducible refine zq8 ?_)
      (first | refine Exec0.call [] ca ?_ rfl ?_ ?_ | refine Exec.call [] ca ?_ rfl ?_ ?_); (focus simp [-getElem?_pos, z0]); (focus simp [-getElem?_pos, z0, z1, z2, z0]); simp [-getElem?_pos, z0, z1, z2, z0]
      repeat (first | (with_reducible first | refine zq1 fun _ => ?_ | refine zq2 fun _ => ?_ | refine zq3 ?_) | ((first | refine zq4 ?_ | refine zq5 fun _ _ => ?_ | refine zq6 ?_); simp [-getElem?_pos, z0, z1, z2, z0]) | ((first | refine AWp.ret ?_ | refine AWp.skip ?_ | refine AWp.exit ?_); try simp only [thenP]) | (with_reducible refine zq7 ?_; simp only [blockP, thenP, reduceIte]) | with_reducible refine zq8 ?_)
      (first | refine Exec0.call [] ck ?_ rfl ?_ ?_ | refine Exec.call [] ck ?_ rfl ?_ ?_); (focus simp [-getElem?_pos, z0]); (focus simp [-getElem?_pos, z0, z1, z2, z0]); simp [-getElem?_pos, z0, z1, z2, z0]
      repeat (first | (with_reducible first | refine zq1 fun _ => ?_ | refine zq2 fun _ => ?_ | refine zq3 ?_) | ((first | refine zq4 ?_ | refine zq5 fun _ _ => ?_ | refine zq6 ?_); simp [-getElem?_pos, z0, z1, z2, z0]) | ((first | refine AWp.ret ?_ | refine AWp.skip ?_ | refine AWp.exit ?_); try simp only [thenP]) | (with_reducible refine zq7 ?_; simp only [blockP, thenP, reduceIte]) | with_reducible refine zq8 ?_)
      (first | refine Exec0.call [] cw ?_ rfl ?_ ?_ | refine Exec.call [] cw ?_ rfl ?_ ?_); (focus simp [-getElem?_pos, z0]); (focus simp [-getElem?_pos, z0, z1, z2, z0]); simp [-getElem?_pos, z0, z1, z2, z0]
      repeat (first | (with_reducible first | refine zq1 fun _ => ?_ | refine zq2 fun _ => ?_ | refine zq3 ?_) | ((first | refine zq4 ?_ | refine zq5 fun _ _ => ?_ | refine zq6 ?_); simp [-getElem?_pos, z0, z1, z2, z0]) | ((first | refine AWp.ret ?_ | refine AWp.skip ?_ | refine AWp.exit ?_); try simp only [thenP]) | (with_reducible refine zq7 ?_; simp only [blockP, thenP, reduceIte]) | with_reducible refine zq8 ?_)
      (first | refine RR.ret ?_ | refine RR.normal ?_); simp [z0]
    · refine acallK tabOk Try.func8 rfl rfl (show 5 ≤ _ by decide) rfl fun _ => ?_; simp only [Try.ntmps8]
      repeat (first | (with_reducible first | refine zq1 fun _ => ?_ | refine zq2 fun _ => ?_ | refine zq3 ?_) | ((first | refine zq4 ?_ | refine zq5 fun _ _ => ?_ | refine zq6 ?_); simp [-getElem?_pos, z0, z1, z2, z0]) | ((first | refine AWp.ret ?_ | refine AWp.skip ?_ | refine AWp.exit ?_); try simp only [thenP]) | (with_reducible refine zq7 ?_; simp only [blockP, thenP, reduceIte]) | with_reducible refine zq8 ?_)
      (first | refine Exec0.call [] cf ?_ rfl ?_ ?_ | refine Exec.call [] cf ?_ rfl ?_ ?_); (focus simp [-getElem?_pos, g1, g1i]); (focus simp [-getElem?_pos, z0, z1, z2, g1, g1i]); simp [-getElem?_pos, z0, z1, z2, g1, g1i]
      (first | refine Exec0.call [] cL ?_ rfl ?_ ?_ | refine Exec.call [] cL ?_ rfl ?_ ?_); (focus simp [-getElem?_pos, z0]); (focus simp [-getElem?_pos, z0, z1, z2, z0]); simp [-getElem?_pos, z0, z1, z2, z0]
      repeat (first | (with_reducible first | refine zq1 fun _ => ?_ | refine zq2 fun _ => ?_ | refine zq3 ?_) | ((first | refine zq4 ?_ | refine zq5 fun _ _ => ?_ | refine zq6 ?_); simp [-getElem?_pos, z0, z1, z2, z0]) | ((first | refine AWp.ret ?_ | refine AWp.skip ?_ | refine AWp.exit ?_); try simp only [thenP]) | (with_reducible refine zq7 ?_; simp only [blockP, thenP, reduceIte]) | with_reducible refine zq8 ?_)
      (first | refine Exec0.call [] cb ?_ rfl ?_ ?_ | refine Exec.call [] cb ?_ rfl ?_ ?_); (focus simp [-getElem?_pos, z0]); (focus simp [-getElem?_pos, z0, z1, z2, z0]); simp [-getElem?_pos, z0, z1, z2, z0]
      repeat (first | (with_reducible first | refine zq1 fun _ => ?_ | refine zq2 fun _ => ?_ | refine zq3 ?_) | ((first | refine zq4 ?_ | refine zq5 fun _ _ => ?_ | refine zq6 ?_); simp [-getElem?_pos, z0, z1, z2, z0]) | ((first | refine AWp.ret ?_ | refine AWp.skip ?_ | refine AWp.exit ?_); try simp only [thenP]) | (with_reducible refine zq7 ?_; simp only [blockP, thenP, reduceIte]) | with_reducible refine zq8 ?_)
      (first | refine Exec0.call [] cr ?_ rfl ?_ ?_ | refine Exec.call [] cr ?_ rfl ?_ ?_); (focus simp [-getElem?_pos, z0]); (focus simp [-getElem?_pos, z0, z1, z2, z0]); simp [-getElem?_pos, z0, z1, z2, z0]
      repeat (first | (with_reducible first | refine zq1 fun _ => ?_ | refine zq2 fun _ => ?_ | refine zq3 ?_) | ((first | refine zq4 ?_ | refine zq5 fun _ _ => ?_ | refine zq6 ?_); simp [-getElem?_pos, z0, z1, z2, z0]) | ((first | refine AWp.ret ?_ | refine AWp.skip ?_ | refine AWp.exit ?_); try simp only [thenP]) | (with_reducible refine zq7 ?_; simp only [blockP, thenP, reduceIte]) | with_reducible refine zq8 ?_)
      (first | refine Exec0.call [] ca ?_ rfl ?_ ?_ | refine Exec.call [] ca ?_ rfl ?_ ?_); (focus simp [-getElem?_pos, ha0]); (focus simp [-getElem?_pos, z0, z1, z2, ha0]); simp [-getElem?_pos, z0, z1, z2, ha0]
      repeat (first | (with_reducible first | refine zq1 fun _ => ?_ | refine zq2 fun _ => ?_ | refine zq3 ?_) | ((first | refine zq4 ?_ | refine zq5 fun _ _ => ?_ | refine zq6 ?_); simp [-getElem?_pos, z0, z1, z2, ha0]) | ((first | refine AWp.ret ?_ | refine AWp.skip ?_ | refine AWp.exit ?_); try simp only [thenP]) | (with_reducible refine zq7 ?_; simp only [blockP, thenP, reduceIte]) | with_reducible refine zq8 ?_)
      (first | refine Exec0.call [] cw ?_ rfl ?_ ?_ | refine Exec.call [] cw ?_ rfl ?_ ?_); (focus simp [-getElem?_pos, ha0]); (focus simp [-getElem?_pos, z0, z1, z2, ha0]); simp [-getElem?_pos, z0, z1, z2, ha0]
      repeat (first | (with_reducible first | refine zq1 fun _ => ?_ | refine zq2 fun _ => ?_ | refine zq3 ?_) | ((first | refine zq4 ?_ | refine zq5 fun _ _ => ?_ | refine zq6 ?_); simp [-getElem?_pos, z0, z1, z2, z0]) | ((first | refine AWp.ret ?_ | refine AWp.skip ?_ | refine AWp.exit ?_); try simp only [thenP]) | (with_reducible refine zq7 ?_; simp only [blockP, thenP, reduceIte]) | with_reducible refine zq8 ?_)
      (first | refine RR.ret ?_ | refine RR.normal ?_); simp [z0]
  | some k =>
    have hre : reachE l g e = 0 := by rw [reachE, if_pos h0, hn]
    obtain ⟨b1, b2, b3, b4⟩ := best_of h0 hn
    obtain ⟨r1, r2⟩ := rowsO_prove h0 hn
    have cs := after_c l e (bestO l e g) (by omega)
    have cs2 := refAfter_c l e (bestO l e g) (by omega)
    have ck2 := refKeen_c (aftR l e (bestO l e g)) g
    have cc := checkRows_c l e g (rowsO l e g) (rowsO_short l e g)
    have cc2 := refCheckRows_c l e g (rowsO l e g) (rowsO_short l e g)
    have cq := checkRows_c l e g Ls hLs
    rw [b4] at ck2
    rw [b3] at cs cs2
    rw [← rows_eq, r1] at cc2
    rw [r1] at cc
    rw [hre] at cb cr
    have hmore : chkRows l e g Ls = 0 → Ls.length ≤ k := fun hc => by
      rw [← b1]
      exact rows_le h0 hc (aft_run b3).1 b4
    have hdk := fun ha hx => hdone k hn ha hx
    generalize bestO l e g = S at *
    generalize aftR l e S = y at *
    generalize rowsO l e g = R at *
    generalize chkRows l e g Ls = nn at *
    obtain ⟨y1, y2⟩ := y
    subst b1
    have hRl : (listsD R).length = S.length := by rw [listsD, List.length_map, r2]
    by_cases ha0 : a = 0
    · subst ha0
      rcases hk : keenB ⟨x1, x2⟩ g <;> rw [hk] at ck
      · by_cases hnn : nn = 0
        · subst hnn
          have j1 := hmore rfl
          have j1i : ¬ (S.length : Int) < Ls.length := by omega
          have j1n : ¬ S.length < Ls.length := by omega
          refine acallK tabOk Try.func8 rfl rfl (show 5 ≤ _ by decide) rfl fun _ => ?_; simp only [Try.ntmps8]
          repeat (first | (with_reducible first | refine zq1 fun _ => ?_ | refine zq2 fun _ => ?_ | refine zq3 ?_) | ((first | refine zq4 ?_ | refine zq5 fun _ _ => ?_ | refine zq6 ?_); simp [-getElem?_pos, z0, z1, z2, z0]) | ((first | refine AWp.ret ?_ | refine AWp.skip ?_ | refine AWp.exit ?_); try simp only [thenP]) | (with_reducible refine zq7 ?_; simp only [blockP, thenP, reduceIte]) | with_reducible refine zq8 ?_)
          (first | refine Exec0.call [] cf ?_ rfl ?_ ?_ | refine Exec.call [] cf ?_ rfl ?_ ?_); (focus simp [-getElem?_pos, g1, g1i]); (focus simp [-getElem?_pos, z0, z1, z2, g1, g1i]); simp [-getElem?_pos, z0, z1, z2, g1, g1i]
          (first | refine Exec0.call [] cL ?_ rfl ?_ ?_ | refine Exec.call [] cL ?_ rfl ?_ ?_); (focus simp [-getElem?_pos, z0]); (focus simp [-getElem?_pos, z0, z1, z2, z0]); simp [-getElem?_pos, z0, z1, z2, z0]
          repeat (first | (with_reducible first | refine zq1 fun _ => ?_ | refine zq2 fun _ => ?_ | refine zq3 ?_) | ((first | refine zq4 ?_ | refine zq5 fun _ _ => ?_ | refine zq6 ?_); simp [-getElem?_pos, z0, z1, z2, z0]) | ((first | refine AWp.ret ?_ | refine AWp.skip ?_ | refine AWp.exit ?_); try simp only [thenP]) | (with_reducible refine zq7 ?_; simp only [blockP, thenP, reduceIte]) | with_reducible refine zq8 ?_)
          (first | refine Exec0.call [] cb ?_ rfl ?_ ?_ | refine Exec.call [] cb ?_ rfl ?_ ?_); (focus simp [-getElem?_pos, z0]); (focus simp [-getElem?_pos, z0, z1, z2, z0]); simp [-getElem?_pos, z0, z1, z2, z0]
          repeat (first | (with_reducible first | refine zq1 fun _ => ?_ | refine zq2 fun _ => ?_ | refine zq3 ?_) | ((first | refine zq4 ?_ | refine zq5 fun _ _ => ?_ | refine zq6 ?_); simp [-getElem?_pos, z0, z1, z2, z0]) | ((first | refine AWp.ret ?_ | refine AWp.skip ?_ | refine AWp.exit ?_); try simp only [thenP]) | (with_reducible refine zq7 ?_; simp only [blockP, thenP, reduceIte]) | with_reducible refine zq8 ?_)
          (first | refine Exec0.call [] cr ?_ rfl ?_ ?_ | refine Exec.call [] cr ?_ rfl ?_ ?_); (focus simp [-getElem?_pos, z0]); (focus simp [-getElem?_pos, z0, z1, z2, z0]); simp [-getElem?_pos, z0, z1, z2, z0]
          repeat (first | (with_reducible first | refine zq1 fun _ => ?_ | refine zq2 fun _ => ?_ | refine zq3 ?_) | ((first | refine zq4 ?_ | refine zq5 fun _ _ => ?_ | refine zq6 ?_); simp [-getElem?_pos, z0, z1, z2, z0]) | ((first | refine AWp.ret ?_ | refine AWp.skip ?_ | refine AWp.exit ?_); try simp only [thenP]) | (with_reducible refine zq7 ?_; simp only [blockP, thenP, reduceIte]) | with_reducible refine zq8 ?_)
          (first | refine Exec0.call [] ca ?_ rfl ?_ ?_ | refine Exec.call [] ca ?_ rfl ?_ ?_); (focus simp [-getElem?_pos, hRl, hll, j1, j1i, j1n]); (focus simp [-getElem?_pos, z0, z1, z2, hRl, hll, j1, j1i, j1n]); simp [-getElem?_pos, z0, z1, z2, hRl, hll, j1, j1i, j1n]
          repeat (first | (with_reducible first | refine zq1 fun _ => ?_ | refine zq2 fun _ => ?_ | refine zq3 ?_) | ((first | refine zq4 ?_ | refine zq5 fun _ _ => ?_ | refine zq6 ?_); simp [-getElem?_pos, z0, z1, z2, hRl, hll, j1, j1i, j1n]) | ((first | refine AWp.ret ?_ | refine AWp.skip ?_ | refine AWp.exit ?_); try simp only [thenP]) | (with_reducible refine zq7 ?_; simp only [blockP, thenP, reduceIte]) | with_reducible refine zq8 ?_)
          (first | refine Exec0.call [] ck ?_ rfl ?_ ?_ | refine Exec.call [] ck ?_ rfl ?_ ?_); (focus simp [-getElem?_pos, hRl, hll, j1, j1i, j1n]); (focus simp [-getElem?_pos, z0, z1, z2, hRl, hll, j1, j1i, j1n]); simp [-getElem?_pos, z0, z1, z2, hRl, hll, j1, j1i, j1n]
          repeat (first | (with_reducible first | refine zq1 fun _ => ?_ | refine zq2 fun _ => ?_ | refine zq3 ?_) | ((first | refine zq4 ?_ | refine zq5 fun _ _ => ?_ | refine zq6 ?_); simp [-getElem?_pos, z0, z1, z2, hRl, hll, j1, j1i, j1n]) | ((first | refine AWp.ret ?_ | refine AWp.skip ?_ | refine AWp.exit ?_); try simp only [thenP]) | (with_reducible refine zq7 ?_; simp only [blockP, thenP, reduceIte]) | with_reducible refine zq8 ?_)
          (first | refine Exec0.call [] cs ?_ rfl ?_ ?_ | refine Exec.call [] cs ?_ rfl ?_ ?_); (focus simp [-getElem?_pos, hRl, hll, j1, j1i, j1n]); (focus simp [-getElem?_pos, z0, z1, z2, hRl, hll, j1, j1i, j1n]); simp [-getElem?_pos, z0, z1, z2, hRl, hll, j1, j1i, j1n]
          repeat (first | (with_reducible first | refine zq1 fun _ => ?_ | refine zq2 fun _ => ?_ | refine zq3 ?_) | ((first | refine zq4 ?_ | refine zq5 fun _ _ => ?_ | refine zq6 ?_); simp [-getElem?_pos, z0, z1, z2, hRl, hll, j1, j1i, j1n]) | ((first | refine AWp.ret ?_ | refine AWp.skip ?_ | refine AWp.exit ?_); try simp only [thenP]) | (with_reducible refine zq7 ?_; simp only [blockP, thenP, reduceIte]) | with_reducible refine zq8 ?_)
          (first | refine Exec0.call [] cs2 ?_ rfl ?_ ?_ | refine Exec.call [] cs2 ?_ rfl ?_ ?_); (focus simp [-getElem?_pos, hRl, hll, j1, j1i, j1n]); (focus simp [-getElem?_pos, z0, z1, z2, hRl, hll, j1, j1i, j1n]); simp [-getElem?_pos, z0, z1, z2, hRl, hll, j1, j1i, j1n]
          repeat (first | (with_reducible first | refine zq1 fun _ => ?_ | refine zq2 fun _ => ?_ | refine zq3 ?_) | ((first | refine zq4 ?_ | refine zq5 fun _ _ => ?_ | refine zq6 ?_); simp [-getElem?_pos, z0, z1, z2, hRl, hll, j1, j1i, j1n]) | ((first | refine AWp.ret ?_ | refine AWp.skip ?_ | refine AWp.exit ?_); try simp only [thenP]) | (with_reducible refine zq7 ?_; simp only [blockP, thenP, reduceIte]) | with_reducible refine zq8 ?_)
          (first | refine Exec0.call [] ck2 ?_ rfl ?_ ?_ | refine Exec.call [] ck2 ?_ rfl ?_ ?_); (focus simp [-getElem?_pos, hRl, hll, j1, j1i, j1n]); (focus simp [-getElem?_pos, z0, z1, z2, hRl, hll, j1, j1i, j1n]); simp [-getElem?_pos, z0, z1, z2, hRl, hll, j1, j1i, j1n]
          repeat (first | (with_reducible first | refine zq1 fun _ => ?_ | refine zq2 fun _ => ?_ | refine zq3 ?_) | ((first | refine zq4 ?_ | refine zq5 fun _ _ => ?_ | refine zq6 ?_); simp [-getElem?_pos, z0, z1, z2, hRl, hll, j1, j1i, j1n]) | ((first | refine AWp.ret ?_ | refine AWp.skip ?_ | refine AWp.exit ?_); try simp only [thenP]) | (with_reducible refine zq7 ?_; simp only [blockP, thenP, reduceIte]) | with_reducible refine zq8 ?_)
          (first | refine Exec0.call [] cc ?_ rfl ?_ ?_ | refine Exec.call [] cc ?_ rfl ?_ ?_); (focus simp [-getElem?_pos, hRl, hll, j1, j1i, j1n]); (focus simp [-getElem?_pos, z0, z1, z2, hRl, hll, j1, j1i, j1n]); simp [-getElem?_pos, z0, z1, z2, hRl, hll, j1, j1i, j1n]
          repeat (first | (with_reducible first | refine zq1 fun _ => ?_ | refine zq2 fun _ => ?_ | refine zq3 ?_) | ((first | refine zq4 ?_ | refine zq5 fun _ _ => ?_ | refine zq6 ?_); simp [-getElem?_pos, z0, z1, z2, hRl, hll, j1, j1i, j1n]) | ((first | refine AWp.ret ?_ | refine AWp.skip ?_ | refine AWp.exit ?_); try simp only [thenP]) | (with_reducible refine zq7 ?_; simp only [blockP, thenP, reduceIte]) | with_reducible refine zq8 ?_)
          (first | refine Exec0.call [] cc2 ?_ rfl ?_ ?_ | refine Exec.call [] cc2 ?_ rfl ?_ ?_); (focus simp [-getElem?_pos, hRl, hll, j1, j1i, j1n]); (focus simp [-getElem?_pos, z0, z1, z2, hRl, hll, j1, j1i, j1n]); simp [-getElem?_pos, z0, z1, z2, hRl, hll, j1, j1i, j1n]
          repeat (first | (with_reducible first | refine zq1 fun _ => ?_ | refine zq2 fun _ => ?_ | refine zq3 ?_) | ((first | refine zq4 ?_ | refine zq5 fun _ _ => ?_ | refine zq6 ?_); simp [-getElem?_pos, z0, z1, z2, hRl, hll, j1, j1i, j1n]) | ((first | refine AWp.ret ?_ | refine AWp.skip ?_ | refine AWp.exit ?_); try simp only [thenP]) | (with_reducible refine zq7 ?_; simp only [blockP, thenP, reduceIte]) | with_reducible refine zq8 ?_)
          (first | refine Exec0.call [] cq ?_ rfl ?_ ?_ | refine Exec.call [] cq ?_ rfl ?_ ?_); (focus simp [-getElem?_pos, hRl, hll, j1, j1i, j1n]); (focus simp [-getElem?_pos, z0, z1, z2, hRl, hll, j1, j1i, j1n]); simp [-getElem?_pos, z0, z1, z2, hRl, hll, j1, j1i, j1n]
          repeat (first | (with_reducible first | refine zq1 fun _ => ?_ | refine zq2 fun _ => ?_ | refine zq3 ?_) | ((first | refine zq4 ?_ | refine zq5 fun _ _ => ?_ | refine zq6 ?_); simp [-getElem?_pos, z0, z1, z2, hRl, hll, j1, j1i, j1n]) | ((first | refine AWp.ret ?_ | refine AWp.skip ?_ | refine AWp.exit ?_); try simp only [thenP]) | (with_reducible refine zq7 ?_; simp only [blockP, thenP, reduceIte]) | with_reducible refine zq8 ?_)
          (first | refine Exec0.call [] cw ?_ rfl ?_ ?_ | refine Exec.call [] cw ?_ rfl ?_ ?_); (focus simp [-getElem?_pos, hRl, hll, j1, j1i, j1n]); (focus simp [-getElem?_pos, z0, z1, z2, hRl, hll, j1, j1i, j1n]); simp [-getElem?_pos, z0, z1, z2, hRl, hll, j1, j1i, j1n]
          repeat (first | (with_reducible first | refine zq1 fun _ => ?_ | refine zq2 fun _ => ?_ | refine zq3 ?_) | ((first | refine zq4 ?_ | refine zq5 fun _ _ => ?_ | refine zq6 ?_); simp [-getElem?_pos, z0, z1, z2, z0]) | ((first | refine AWp.ret ?_ | refine AWp.skip ?_ | refine AWp.exit ?_); try simp only [thenP]) | (with_reducible refine zq7 ?_; simp only [blockP, thenP, reduceIte]) | with_reducible refine zq8 ?_)
          (first | refine RR.ret ?_ | refine RR.normal ?_); simp [z0]
        · refine acallK tabOk Try.func8 rfl rfl (show 5 ≤ _ by decide) rfl fun _ => ?_; simp only [Try.ntmps8]
          repeat (first | (with_reducible first | refine zq1 fun _ => ?_ | refine zq2 fun _ => ?_ | refine zq3 ?_) | ((first | refine zq4 ?_ | refine zq5 fun _ _ => ?_ | refine zq6 ?_); simp [-getElem?_pos, z0, z1, z2, z0]) | ((first | refine AWp.ret ?_ | refine AWp.skip ?_ | refine AWp.exit ?_); try simp only [thenP]) | (with_reducible refine zq7 ?_; simp only [blockP, thenP, reduceIte]) | with_reducible refine zq8 ?_)
          (first | refine Exec0.call [] cf ?_ rfl ?_ ?_ | refine Exec.call [] cf ?_ rfl ?_ ?_); (focus simp [-getElem?_pos, g1, g1i]); (focus simp [-getElem?_pos, z0, z1, z2, g1, g1i]); simp [-getElem?_pos, z0, z1, z2, g1, g1i]
          (first | refine Exec0.call [] cL ?_ rfl ?_ ?_ | refine Exec.call [] cL ?_ rfl ?_ ?_); (focus simp [-getElem?_pos, z0]); (focus simp [-getElem?_pos, z0, z1, z2, z0]); simp [-getElem?_pos, z0, z1, z2, z0]
          repeat (first | (with_reducible first | refine zq1 fun _ => ?_ | refine zq2 fun _ => ?_ | refine zq3 ?_) | ((first | refine zq4 ?_ | refine zq5 fun _ _ => ?_ | refine zq6 ?_); simp [-getElem?_pos, z0, z1, z2, z0]) | ((first | refine AWp.ret ?_ | refine AWp.skip ?_ | refine AWp.exit ?_); try simp only [thenP]) | (with_reducible refine zq7 ?_; simp only [blockP, thenP, reduceIte]) | with_reducible refine zq8 ?_)
          (first | refine Exec0.call [] cb ?_ rfl ?_ ?_ | refine Exec.call [] cb ?_ rfl ?_ ?_); (focus simp [-getElem?_pos, z0]); (focus simp [-getElem?_pos, z0, z1, z2, z0]); simp [-getElem?_pos, z0, z1, z2, z0]
          repeat (first | (with_reducible first | refine zq1 fun _ => ?_ | refine zq2 fun _ => ?_ | refine zq3 ?_) | ((first | refine zq4 ?_ | refine zq5 fun _ _ => ?_ | refine zq6 ?_); simp [-getElem?_pos, z0, z1, z2, z0]) | ((first | refine AWp.ret ?_ | refine AWp.skip ?_ | refine AWp.exit ?_); try simp only [thenP]) | (with_reducible refine zq7 ?_; simp only [blockP, thenP, reduceIte]) | with_reducible refine zq8 ?_)
          (first | refine Exec0.call [] cr ?_ rfl ?_ ?_ | refine Exec.call [] cr ?_ rfl ?_ ?_); (focus simp [-getElem?_pos, z0]); (focus simp [-getElem?_pos, z0, z1, z2, z0]); simp [-getElem?_pos, z0, z1, z2, z0]
          repeat (first | (with_reducible first | refine zq1 fun _ => ?_ | refine zq2 fun _ => ?_ | refine zq3 ?_) | ((first | refine zq4 ?_ | refine zq5 fun _ _ => ?_ | refine zq6 ?_); simp [-getElem?_pos, z0, z1, z2, z0]) | ((first | refine AWp.ret ?_ | refine AWp.skip ?_ | refine AWp.exit ?_); try simp only [thenP]) | (with_reducible refine zq7 ?_; simp only [blockP, thenP, reduceIte]) | with_reducible refine zq8 ?_)
          (first | refine Exec0.call [] ca ?_ rfl ?_ ?_ | refine Exec.call [] ca ?_ rfl ?_ ?_); (focus simp [-getElem?_pos, hRl, hll, hnn]); (focus simp [-getElem?_pos, z0, z1, z2, hRl, hll, hnn]); simp [-getElem?_pos, z0, z1, z2, hRl, hll, hnn]
          repeat (first | (with_reducible first | refine zq1 fun _ => ?_ | refine zq2 fun _ => ?_ | refine zq3 ?_) | ((first | refine zq4 ?_ | refine zq5 fun _ _ => ?_ | refine zq6 ?_); simp [-getElem?_pos, z0, z1, z2, hRl, hll, hnn]) | ((first | refine AWp.ret ?_ | refine AWp.skip ?_ | refine AWp.exit ?_); try simp only [thenP]) | (with_reducible refine zq7 ?_; simp only [blockP, thenP, reduceIte]) | with_reducible refine zq8 ?_)
          (first | refine Exec0.call [] ck ?_ rfl ?_ ?_ | refine Exec.call [] ck ?_ rfl ?_ ?_); (focus simp [-getElem?_pos, hRl, hll, hnn]); (focus simp [-getElem?_pos, z0, z1, z2, hRl, hll, hnn]); simp [-getElem?_pos, z0, z1, z2, hRl, hll, hnn]
          repeat (first | (with_reducible first | refine zq1 fun _ => ?_ | refine zq2 fun _ => ?_ | refine zq3 ?_) | ((first | refine zq4 ?_ | refine zq5 fun _ _ => ?_ | refine zq6 ?_); simp [-getElem?_pos, z0, z1, z2, hRl, hll, hnn]) | ((first | refine AWp.ret ?_ | refine AWp.skip ?_ | refine AWp.exit ?_); try simp only [thenP]) | (with_reducible refine zq7 ?_; simp only [blockP, thenP, reduceIte]) | with_reducible refine zq8 ?_)
          (first | refine Exec0.call [] cs ?_ rfl ?_ ?_ | refine Exec.call [] cs ?_ rfl ?_ ?_); (focus simp [-getElem?_pos, hRl, hll, hnn]); (focus simp [-getElem?_pos, z0, z1, z2, hRl, hll, hnn]); simp [-getElem?_pos, z0, z1, z2, hRl, hll, hnn]
          repeat (first | (with_reducible first | refine zq1 fun _ => ?_ | refine zq2 fun _ => ?_ | refine zq3 ?_) | ((first | refine zq4 ?_ | refine zq5 fun _ _ => ?_ | refine zq6 ?_); simp [-getElem?_pos, z0, z1, z2, hRl, hll, hnn]) | ((first | refine AWp.ret ?_ | refine AWp.skip ?_ | refine AWp.exit ?_); try simp only [thenP]) | (with_reducible refine zq7 ?_; simp only [blockP, thenP, reduceIte]) | with_reducible refine zq8 ?_)
          (first | refine Exec0.call [] cs2 ?_ rfl ?_ ?_ | refine Exec.call [] cs2 ?_ rfl ?_ ?_); (focus simp [-getElem?_pos, hRl, hll, hnn]); (focus simp [-getElem?_pos, z0, z1, z2, hRl, hll, hnn]); simp [-getElem?_pos, z0, z1, z2, hRl, hll, hnn]
          repeat (first | (with_reducible first | refine zq1 fun _ => ?_ | refine zq2 fun _ => ?_ | refine zq3 ?_) | ((first | refine zq4 ?_ | refine zq5 fun _ _ => ?_ | refine zq6 ?_); simp [-getElem?_pos, z0, z1, z2, hRl, hll, hnn]) | ((first | refine AWp.ret ?_ | refine AWp.skip ?_ | refine AWp.exit ?_); try simp only [thenP]) | (with_reducible refine zq7 ?_; simp only [blockP, thenP, reduceIte]) | with_reducible refine zq8 ?_)
          (first | refine Exec0.call [] ck2 ?_ rfl ?_ ?_ | refine Exec.call [] ck2 ?_ rfl ?_ ?_); (focus simp [-getElem?_pos, hRl, hll, hnn]); (focus simp [-getElem?_pos, z0, z1, z2, hRl, hll, hnn]); simp [-getElem?_pos, z0, z1, z2, hRl, hll, hnn]
          repeat (first | (with_reducible first | refine zq1 fun _ => ?_ | refine zq2 fun _ => ?_ | refine zq3 ?_) | ((first | refine zq4 ?_ | refine zq5 fun _ _ => ?_ | refine zq6 ?_); simp [-getElem?_pos, z0, z1, z2, hRl, hll, hnn]) | ((first | refine AWp.ret ?_ | refine AWp.skip ?_ | refine AWp.exit ?_); try simp only [thenP]) | (with_reducible refine zq7 ?_; simp only [blockP, thenP, reduceIte]) | with_reducible refine zq8 ?_)
          (first | refine Exec0.call [] cc ?_ rfl ?_ ?_ | refine Exec.call [] cc ?_ rfl ?_ ?_); (focus simp [-getElem?_pos, hRl, hll, hnn]); (focus simp [-getElem?_pos, z0, z1, z2, hRl, hll, hnn]); simp [-getElem?_pos, z0, z1, z2, hRl, hll, hnn]
          repeat (first | (with_reducible first | refine zq1 fun _ => ?_ | refine zq2 fun _ => ?_ | refine zq3 ?_) | ((first | refine zq4 ?_ | refine zq5 fun _ _ => ?_ | refine zq6 ?_); simp [-getElem?_pos, z0, z1, z2, hRl, hll, hnn]) | ((first | refine AWp.ret ?_ | refine AWp.skip ?_ | refine AWp.exit ?_); try simp only [thenP]) | (with_reducible refine zq7 ?_; simp only [blockP, thenP, reduceIte]) | with_reducible refine zq8 ?_)
          (first | refine Exec0.call [] cc2 ?_ rfl ?_ ?_ | refine Exec.call [] cc2 ?_ rfl ?_ ?_); (focus simp [-getElem?_pos, hRl, hll, hnn]); (focus simp [-getElem?_pos, z0, z1, z2, hRl, hll, hnn]); simp [-getElem?_pos, z0, z1, z2, hRl, hll, hnn]
          repeat (first | (with_reducible first | refine zq1 fun _ => ?_ | refine zq2 fun _ => ?_ | refine zq3 ?_) | ((first | refine zq4 ?_ | refine zq5 fun _ _ => ?_ | refine zq6 ?_); simp [-getElem?_pos, z0, z1, z2, hRl, hll, hnn]) | ((first | refine AWp.ret ?_ | refine AWp.skip ?_ | refine AWp.exit ?_); try simp only [thenP]) | (with_reducible refine zq7 ?_; simp only [blockP, thenP, reduceIte]) | with_reducible refine zq8 ?_)
          (first | refine Exec0.call [] cq ?_ rfl ?_ ?_ | refine Exec.call [] cq ?_ rfl ?_ ?_); (focus simp [-getElem?_pos, hRl, hll, hnn]); (focus simp [-getElem?_pos, z0, z1, z2, hRl, hll, hnn]); simp [-getElem?_pos, z0, z1, z2, hRl, hll, hnn]
          repeat (first | (with_reducible first | refine zq1 fun _ => ?_ | refine zq2 fun _ => ?_ | refine zq3 ?_) | ((first | refine zq4 ?_ | refine zq5 fun _ _ => ?_ | refine zq6 ?_); simp [-getElem?_pos, z0, z1, z2, hRl, hll, hnn]) | ((first | refine AWp.ret ?_ | refine AWp.skip ?_ | refine AWp.exit ?_); try simp only [thenP]) | (with_reducible refine zq7 ?_; simp only [blockP, thenP, reduceIte]) | with_reducible refine zq8 ?_)
          (first | refine Exec0.call [] cw ?_ rfl ?_ ?_ | refine Exec.call [] cw ?_ rfl ?_ ?_); (focus simp [-getElem?_pos, hRl, hll, hnn]); (focus simp [-getElem?_pos, z0, z1, z2, hRl, hll, hnn]); simp [-getElem?_pos, z0, z1, z2, hRl, hll, hnn]
          repeat (first | (with_reducible first | refine zq1 fun _ => ?_ | refine zq2 fun _ => ?_ | refine zq3 ?_) | ((first | refine zq4 ?_ | refine zq5 fun _ _ => ?_ | refine zq6 ?_); simp [-getElem?_pos, z0, z1, z2, z0]) | ((first | refine AWp.ret ?_ | refine AWp.skip ?_ | refine AWp.exit ?_); try simp only [thenP]) | (with_reducible refine zq7 ?_; simp only [blockP, thenP, reduceIte]) | with_reducible refine zq8 ?_)
          (first | refine RR.ret ?_ | refine RR.normal ?_); simp [z0]
      · have j2 := hdk rfl hk
        have j2i : (S.length : Int) ≤ t.length := by omega
        by_cases hnn : nn = 0
        · subst hnn
          have j1 := hmore rfl
          have j1i : ¬ (S.length : Int) < Ls.length := by omega
          have j1n : ¬ S.length < Ls.length := by omega
          have j3 := hdone2 rfl hk rfl
          have j3i : ¬ (t.length : Int) < Ls.length := by omega
          have j3n : ¬ t.length < Ls.length := by omega
          refine acallK tabOk Try.func8 rfl rfl (show 5 ≤ _ by decide) rfl fun _ => ?_; simp only [Try.ntmps8]
          repeat (first | (with_reducible first | refine zq1 fun _ => ?_ | refine zq2 fun _ => ?_ | refine zq3 ?_) | ((first | refine zq4 ?_ | refine zq5 fun _ _ => ?_ | refine zq6 ?_); simp [-getElem?_pos, z0, z1, z2, z0]) | ((first | refine AWp.ret ?_ | refine AWp.skip ?_ | refine AWp.exit ?_); try simp only [thenP]) | (with_reducible refine zq7 ?_; simp only [blockP, thenP, reduceIte]) | with_reducible refine zq8 ?_)
          (first | refine Exec0.call [] cf ?_ rfl ?_ ?_ | refine Exec.call [] cf ?_ rfl ?_ ?_); (focus simp [-getElem?_pos, g1, g1i]); (focus simp [-getElem?_pos, z0, z1, z2, g1, g1i]); simp [-getElem?_pos, z0, z1, z2, g1, g1i]
          (first | refine Exec0.call [] cL ?_ rfl ?_ ?_ | refine Exec.call [] cL ?_ rfl ?_ ?_); (focus simp [-getElem?_pos, z0]); (focus simp [-getElem?_pos, z0, z1, z2, z0]); simp [-getElem?_pos, z0, z1, z2, z0]
          repeat (first | (with_reducible first | refine zq1 fun _ => ?_ | refine zq2 fun _ => ?_ | refine zq3 ?_) | ((first | refine zq4 ?_ | refine zq5 fun _ _ => ?_ | refine zq6 ?_); simp [-getElem?_pos, z0, z1, z2, z0]) | ((first | refine AWp.ret ?_ | refine AWp.skip ?_ | refine AWp.exit ?_); try simp only [thenP]) | (with_reducible refine zq7 ?_; simp only [blockP, thenP, reduceIte]) | with_reducible refine zq8 ?_)
          (first | refine Exec0.call [] cb ?_ rfl ?_ ?_ | refine Exec.call [] cb ?_ rfl ?_ ?_); (focus simp [-getElem?_pos, z0]); (focus simp [-getElem?_pos, z0, z1, z2, z0]); simp [-getElem?_pos, z0, z1, z2, z0]
          repeat (first | (with_reducible first | refine zq1 fun _ => ?_ | refine zq2 fun _ => ?_ | refine zq3 ?_) | ((first | refine zq4 ?_ | refine zq5 fun _ _ => ?_ | refine zq6 ?_); simp [-getElem?_pos, z0, z1, z2, z0]) | ((first | refine AWp.ret ?_ | refine AWp.skip ?_ | refine AWp.exit ?_); try simp only [thenP]) | (with_reducible refine zq7 ?_; simp only [blockP, thenP, reduceIte]) | with_reducible refine zq8 ?_)
          (first | refine Exec0.call [] cr ?_ rfl ?_ ?_ | refine Exec.call [] cr ?_ rfl ?_ ?_); (focus simp [-getElem?_pos, z0]); (focus simp [-getElem?_pos, z0, z1, z2, z0]); simp [-getElem?_pos, z0, z1, z2, z0]
          repeat (first | (with_reducible first | refine zq1 fun _ => ?_ | refine zq2 fun _ => ?_ | refine zq3 ?_) | ((first | refine zq4 ?_ | refine zq5 fun _ _ => ?_ | refine zq6 ?_); simp [-getElem?_pos, z0, z1, z2, z0]) | ((first | refine AWp.ret ?_ | refine AWp.skip ?_ | refine AWp.exit ?_); try simp only [thenP]) | (with_reducible refine zq7 ?_; simp only [blockP, thenP, reduceIte]) | with_reducible refine zq8 ?_)
          (first | refine Exec0.call [] ca ?_ rfl ?_ ?_ | refine Exec.call [] ca ?_ rfl ?_ ?_); (focus simp [-getElem?_pos, hRl, hll, j1, j1i, j1n, j2, j2i, j3, j3i, j3n]); (focus simp [-getElem?_pos, z0, z1, z2, hRl, hll, j1, j1i, j1n, j2, j2i, j3, j3i, j3n]); simp [-getElem?_pos, z0, z1, z2, hRl, hll, j1, j1i, j1n, j2, j2i, j3, j3i, j3n]
          repeat (first | (with_reducible first | refine zq1 fun _ => ?_ | refine zq2 fun _ => ?_ | refine zq3 ?_) | ((first | refine zq4 ?_ | refine zq5 fun _ _ => ?_ | refine zq6 ?_); simp [-getElem?_pos, z0, z1, z2, hRl, hll, j1, j1i, j1n, j2, j2i, j3, j3i, j3n]) | ((first | refine AWp.ret ?_ | refine AWp.skip ?_ | refine AWp.exit ?_); try simp only [thenP]) | (with_reducible refine zq7 ?_; simp only [blockP, thenP, reduceIte]) | with_reducible refine zq8 ?_)
          (first | refine Exec0.call [] ck ?_ rfl ?_ ?_ | refine Exec.call [] ck ?_ rfl ?_ ?_); (focus simp [-getElem?_pos, hRl, hll, j1, j1i, j1n, j2, j2i, j3, j3i, j3n]); (focus simp [-getElem?_pos, z0, z1, z2, hRl, hll, j1, j1i, j1n, j2, j2i, j3, j3i, j3n]); simp [-getElem?_pos, z0, z1, z2, hRl, hll, j1, j1i, j1n, j2, j2i, j3, j3i, j3n]
          repeat (first | (with_reducible first | refine zq1 fun _ => ?_ | refine zq2 fun _ => ?_ | refine zq3 ?_) | ((first | refine zq4 ?_ | refine zq5 fun _ _ => ?_ | refine zq6 ?_); simp [-getElem?_pos, z0, z1, z2, hRl, hll, j1, j1i, j1n, j2, j2i, j3, j3i, j3n]) | ((first | refine AWp.ret ?_ | refine AWp.skip ?_ | refine AWp.exit ?_); try simp only [thenP]) | (with_reducible refine zq7 ?_; simp only [blockP, thenP, reduceIte]) | with_reducible refine zq8 ?_)
          (first | refine Exec0.call [] cs ?_ rfl ?_ ?_ | refine Exec.call [] cs ?_ rfl ?_ ?_); (focus simp [-getElem?_pos, hRl, hll, j1, j1i, j1n, j2, j2i, j3, j3i, j3n]); (focus simp [-getElem?_pos, z0, z1, z2, hRl, hll, j1, j1i, j1n, j2, j2i, j3, j3i, j3n]); simp [-getElem?_pos, z0, z1, z2, hRl, hll, j1, j1i, j1n, j2, j2i, j3, j3i, j3n]
          repeat (first | (with_reducible first | refine zq1 fun _ => ?_ | refine zq2 fun _ => ?_ | refine zq3 ?_) | ((first | refine zq4 ?_ | refine zq5 fun _ _ => ?_ | refine zq6 ?_); simp [-getElem?_pos, z0, z1, z2, hRl, hll, j1, j1i, j1n, j2, j2i, j3, j3i, j3n]) | ((first | refine AWp.ret ?_ | refine AWp.skip ?_ | refine AWp.exit ?_); try simp only [thenP]) | (with_reducible refine zq7 ?_; simp only [blockP, thenP, reduceIte]) | with_reducible refine zq8 ?_)
          (first | refine Exec0.call [] cs2 ?_ rfl ?_ ?_ | refine Exec.call [] cs2 ?_ rfl ?_ ?_); (focus simp [-getElem?_pos, hRl, hll, j1, j1i, j1n, j2, j2i, j3, j3i, j3n]); (focus simp [-getElem?_pos, z0, z1, z2, hRl, hll, j1, j1i, j1n, j2, j2i, j3, j3i, j3n]); simp [-getElem?_pos, z0, z1, z2, hRl, hll, j1, j1i, j1n, j2, j2i, j3, j3i, j3n]
          repeat (first | (with_reducible first | refine zq1 fun _ => ?_ | refine zq2 fun _ => ?_ | refine zq3 ?_) | ((first | refine zq4 ?_ | refine zq5 fun _ _ => ?_ | refine zq6 ?_); simp [-getElem?_pos, z0, z1, z2, hRl, hll, j1, j1i, j1n, j2, j2i, j3, j3i, j3n]) | ((first | refine AWp.ret ?_ | refine AWp.skip ?_ | refine AWp.exit ?_); try simp only [thenP]) | (with_reducible refine zq7 ?_; simp only [blockP, thenP, reduceIte]) | with_reducible refine zq8 ?_)
          (first | refine Exec0.call [] ck2 ?_ rfl ?_ ?_ | refine Exec.call [] ck2 ?_ rfl ?_ ?_); (focus simp [-getElem?_pos, hRl, hll, j1, j1i, j1n, j2, j2i, j3, j3i, j3n]); (focus simp [-getElem?_pos, z0, z1, z2, hRl, hll, j1, j1i, j1n, j2, j2i, j3, j3i, j3n]); simp [-getElem?_pos, z0, z1, z2, hRl, hll, j1, j1i, j1n, j2, j2i, j3, j3i, j3n]
          repeat (first | (with_reducible first | refine zq1 fun _ => ?_ | refine zq2 fun _ => ?_ | refine zq3 ?_) | ((first | refine zq4 ?_ | refine zq5 fun _ _ => ?_ | refine zq6 ?_); simp [-getElem?_pos, z0, z1, z2, hRl, hll, j1, j1i, j1n, j2, j2i, j3, j3i, j3n]) | ((first | refine AWp.ret ?_ | refine AWp.skip ?_ | refine AWp.exit ?_); try simp only [thenP]) | (with_reducible refine zq7 ?_; simp only [blockP, thenP, reduceIte]) | with_reducible refine zq8 ?_)
          (first | refine Exec0.call [] cc ?_ rfl ?_ ?_ | refine Exec.call [] cc ?_ rfl ?_ ?_); (focus simp [-getElem?_pos, hRl, hll, j1, j1i, j1n, j2, j2i, j3, j3i, j3n]); (focus simp [-getElem?_pos, z0, z1, z2, hRl, hll, j1, j1i, j1n, j2, j2i, j3, j3i, j3n]); simp [-getElem?_pos, z0, z1, z2, hRl, hll, j1, j1i, j1n, j2, j2i, j3, j3i, j3n]
          repeat (first | (with_reducible first | refine zq1 fun _ => ?_ | refine zq2 fun _ => ?_ | refine zq3 ?_) | ((first | refine zq4 ?_ | refine zq5 fun _ _ => ?_ | refine zq6 ?_); simp [-getElem?_pos, z0, z1, z2, hRl, hll, j1, j1i, j1n, j2, j2i, j3, j3i, j3n]) | ((first | refine AWp.ret ?_ | refine AWp.skip ?_ | refine AWp.exit ?_); try simp only [thenP]) | (with_reducible refine zq7 ?_; simp only [blockP, thenP, reduceIte]) | with_reducible refine zq8 ?_)
          (first | refine Exec0.call [] cc2 ?_ rfl ?_ ?_ | refine Exec.call [] cc2 ?_ rfl ?_ ?_); (focus simp [-getElem?_pos, hRl, hll, j1, j1i, j1n, j2, j2i, j3, j3i, j3n]); (focus simp [-getElem?_pos, z0, z1, z2, hRl, hll, j1, j1i, j1n, j2, j2i, j3, j3i, j3n]); simp [-getElem?_pos, z0, z1, z2, hRl, hll, j1, j1i, j1n, j2, j2i, j3, j3i, j3n]
          repeat (first | (with_reducible first | refine zq1 fun _ => ?_ | refine zq2 fun _ => ?_ | refine zq3 ?_) | ((first | refine zq4 ?_ | refine zq5 fun _ _ => ?_ | refine zq6 ?_); simp [-getElem?_pos, z0, z1, z2, hRl, hll, j1, j1i, j1n, j2, j2i, j3, j3i, j3n]) | ((first | refine AWp.ret ?_ | refine AWp.skip ?_ | refine AWp.exit ?_); try simp only [thenP]) | (with_reducible refine zq7 ?_; simp only [blockP, thenP, reduceIte]) | with_reducible refine zq8 ?_)
          (first | refine Exec0.call [] cq ?_ rfl ?_ ?_ | refine Exec.call [] cq ?_ rfl ?_ ?_); (focus simp [-getElem?_pos, hRl, hll, j1, j1i, j1n, j2, j2i, j3, j3i, j3n]); (focus simp [-getElem?_pos, z0, z1, z2, hRl, hll, j1, j1i, j1n, j2, j2i, j3, j3i, j3n]); simp [-getElem?_pos, z0, z1, z2, hRl, hll, j1, j1i, j1n, j2, j2i, j3, j3i, j3n]
          repeat (first | (with_reducible first | refine zq1 fun _ => ?_ | refine zq2 fun _ => ?_ | refine zq3 ?_) | ((first | refine zq4 ?_ | refine zq5 fun _ _ => ?_ | refine zq6 ?_); simp [-getElem?_pos, z0, z1, z2, hRl, hll, j1, j1i, j1n, j2, j2i, j3, j3i, j3n]) | ((first | refine AWp.ret ?_ | refine AWp.skip ?_ | refine AWp.exit ?_); try simp only [thenP]) | (with_reducible refine zq7 ?_; simp only [blockP, thenP, reduceIte]) | with_reducible refine zq8 ?_)
          (first | refine Exec0.call [] cw ?_ rfl ?_ ?_ | refine Exec.call [] cw ?_ rfl ?_ ?_); (focus simp [-getElem?_pos, hRl, hll, j1, j1i, j1n, j2, j2i, j3, j3i, j3n]); (focus simp [-getElem?_pos, z0, z1, z2, hRl, hll, j1, j1i, j1n, j2, j2i, j3, j3i, j3n]); simp [-getElem?_pos, z0, z1, z2, hRl, hll, j1, j1i, j1n, j2, j2i, j3, j3i, j3n]
          repeat (first | (with_reducible first | refine zq1 fun _ => ?_ | refine zq2 fun _ => ?_ | refine zq3 ?_) | ((first | refine zq4 ?_ | refine zq5 fun _ _ => ?_ | refine zq6 ?_); simp [-getElem?_pos, z0, z1, z2, z0]) | ((first | refine AWp.ret ?_ | refine AWp.skip ?_ | refine AWp.exit ?_); try simp only [thenP]) | (with_reducible refine zq7 ?_; simp only [blockP, thenP, reduceIte]) | with_reducible refine zq8 ?_)
          (first | refine RR.ret ?_ | refine RR.normal ?_); simp [z0]
        · refine acallK tabOk Try.func8 rfl rfl (show 5 ≤ _ by decide) rfl fun _ => ?_; simp only [Try.ntmps8]
          repeat (first | (with_reducible first | refine zq1 fun _ => ?_ | refine zq2 fun _ => ?_ | refine zq3 ?_) | ((first | refine zq4 ?_ | refine zq5 fun _ _ => ?_ | refine zq6 ?_); simp [-getElem?_pos, z0, z1, z2, z0]) | ((first | refine AWp.ret ?_ | refine AWp.skip ?_ | refine AWp.exit ?_); try simp only [thenP]) | (with_reducible refine zq7 ?_; simp only [blockP, thenP, reduceIte]) | with_reducible refine zq8 ?_)
          (first | refine Exec0.call [] cf ?_ rfl ?_ ?_ | refine Exec.call [] cf ?_ rfl ?_ ?_); (focus simp [-getElem?_pos, g1, g1i]); (focus simp [-getElem?_pos, z0, z1, z2, g1, g1i]); simp [-getElem?_pos, z0, z1, z2, g1, g1i]
          (first | refine Exec0.call [] cL ?_ rfl ?_ ?_ | refine Exec.call [] cL ?_ rfl ?_ ?_); (focus simp [-getElem?_pos, z0]); (focus simp [-getElem?_pos, z0, z1, z2, z0]); simp [-getElem?_pos, z0, z1, z2, z0]
          repeat (first | (with_reducible first | refine zq1 fun _ => ?_ | refine zq2 fun _ => ?_ | refine zq3 ?_) | ((first | refine zq4 ?_ | refine zq5 fun _ _ => ?_ | refine zq6 ?_); simp [-getElem?_pos, z0, z1, z2, z0]) | ((first | refine AWp.ret ?_ | refine AWp.skip ?_ | refine AWp.exit ?_); try simp only [thenP]) | (with_reducible refine zq7 ?_; simp only [blockP, thenP, reduceIte]) | with_reducible refine zq8 ?_)
          (first | refine Exec0.call [] cb ?_ rfl ?_ ?_ | refine Exec.call [] cb ?_ rfl ?_ ?_); (focus simp [-getElem?_pos, z0]); (focus simp [-getElem?_pos, z0, z1, z2, z0]); simp [-getElem?_pos, z0, z1, z2, z0]
          repeat (first | (with_reducible first | refine zq1 fun _ => ?_ | refine zq2 fun _ => ?_ | refine zq3 ?_) | ((first | refine zq4 ?_ | refine zq5 fun _ _ => ?_ | refine zq6 ?_); simp [-getElem?_pos, z0, z1, z2, z0]) | ((first | refine AWp.ret ?_ | refine AWp.skip ?_ | refine AWp.exit ?_); try simp only [thenP]) | (with_reducible refine zq7 ?_; simp only [blockP, thenP, reduceIte]) | with_reducible refine zq8 ?_)
          (first | refine Exec0.call [] cr ?_ rfl ?_ ?_ | refine Exec.call [] cr ?_ rfl ?_ ?_); (focus simp [-getElem?_pos, z0]); (focus simp [-getElem?_pos, z0, z1, z2, z0]); simp [-getElem?_pos, z0, z1, z2, z0]
          repeat (first | (with_reducible first | refine zq1 fun _ => ?_ | refine zq2 fun _ => ?_ | refine zq3 ?_) | ((first | refine zq4 ?_ | refine zq5 fun _ _ => ?_ | refine zq6 ?_); simp [-getElem?_pos, z0, z1, z2, z0]) | ((first | refine AWp.ret ?_ | refine AWp.skip ?_ | refine AWp.exit ?_); try simp only [thenP]) | (with_reducible refine zq7 ?_; simp only [blockP, thenP, reduceIte]) | with_reducible refine zq8 ?_)
          (first | refine Exec0.call [] ca ?_ rfl ?_ ?_ | refine Exec.call [] ca ?_ rfl ?_ ?_); (focus simp [-getElem?_pos, hRl, hll, hnn, j2, j2i]); (focus simp [-getElem?_pos, z0, z1, z2, hRl, hll, hnn, j2, j2i]); simp [-getElem?_pos, z0, z1, z2, hRl, hll, hnn, j2, j2i]
          repeat (first | (with_reducible first | refine zq1 fun _ => ?_ | refine zq2 fun _ => ?_ | refine zq3 ?_) | ((first | refine zq4 ?_ | refine zq5 fun _ _ => ?_ | refine zq6 ?_); simp [-getElem?_pos, z0, z1, z2, hRl, hll, hnn, j2, j2i]) | ((first | refine AWp.ret ?_ | refine AWp.skip ?_ | refine AWp.exit ?_); try simp only [thenP]) | (with_reducible refine zq7 ?_; simp only [blockP, thenP, reduceIte]) | with_reducible refine zq8 ?_)
          (first | refine Exec0.call [] ck ?_ rfl ?_ ?_ | refine Exec.call [] ck ?_ rfl ?_ ?_); (focus simp [-getElem?_pos, hRl, hll, hnn, j2, j2i]); (focus simp [-getElem?_pos, z0, z1, z2, hRl, hll, hnn, j2, j2i]); simp [-getElem?_pos, z0, z1, z2, hRl, hll, hnn, j2, j2i]
          repeat (first | (with_reducible first | refine zq1 fun _ => ?_ | refine zq2 fun _ => ?_ | refine zq3 ?_) | ((first | refine zq4 ?_ | refine zq5 fun _ _ => ?_ | refine zq6 ?_); simp [-getElem?_pos, z0, z1, z2, hRl, hll, hnn, j2, j2i]) | ((first | refine AWp.ret ?_ | refine AWp.skip ?_ | refine AWp.exit ?_); try simp only [thenP]) | (with_reducible refine zq7 ?_; simp only [blockP, thenP, reduceIte]) | with_reducible refine zq8 ?_)
          (first | refine Exec0.call [] cs ?_ rfl ?_ ?_ | refine Exec.call [] cs ?_ rfl ?_ ?_); (focus simp [-getElem?_pos, hRl, hll, hnn, j2, j2i]); (focus simp [-getElem?_pos, z0, z1, z2, hRl, hll, hnn, j2, j2i]); simp [-getElem?_pos, z0, z1, z2, hRl, hll, hnn, j2, j2i]
          repeat (first | (with_reducible first | refine zq1 fun _ => ?_ | refine zq2 fun _ => ?_ | refine zq3 ?_) | ((first | refine zq4 ?_ | refine zq5 fun _ _ => ?_ | refine zq6 ?_); simp [-getElem?_pos, z0, z1, z2, hRl, hll, hnn, j2, j2i]) | ((first | refine AWp.ret ?_ | refine AWp.skip ?_ | refine AWp.exit ?_); try simp only [thenP]) | (with_reducible refine zq7 ?_; simp only [blockP, thenP, reduceIte]) | with_reducible refine zq8 ?_)
          (first | refine Exec0.call [] cs2 ?_ rfl ?_ ?_ | refine Exec.call [] cs2 ?_ rfl ?_ ?_); (focus simp [-getElem?_pos, hRl, hll, hnn, j2, j2i]); (focus simp [-getElem?_pos, z0, z1, z2, hRl, hll, hnn, j2, j2i]); simp [-getElem?_pos, z0, z1, z2, hRl, hll, hnn, j2, j2i]
          repeat (first | (with_reducible first | refine zq1 fun _ => ?_ | refine zq2 fun _ => ?_ | refine zq3 ?_) | ((first | refine zq4 ?_ | refine zq5 fun _ _ => ?_ | refine zq6 ?_); simp [-getElem?_pos, z0, z1, z2, hRl, hll, hnn, j2, j2i]) | ((first | refine AWp.ret ?_ | refine AWp.skip ?_ | refine AWp.exit ?_); try simp only [thenP]) | (with_reducible refine zq7 ?_; simp only [blockP, thenP, reduceIte]) | with_reducible refine zq8 ?_)
          (first | refine Exec0.call [] ck2 ?_ rfl ?_ ?_ | refine Exec.call [] ck2 ?_ rfl ?_ ?_); (focus simp [-getElem?_pos, hRl, hll, hnn, j2, j2i]); (focus simp [-getElem?_pos, z0, z1, z2, hRl, hll, hnn, j2, j2i]); simp [-getElem?_pos, z0, z1, z2, hRl, hll, hnn, j2, j2i]
          repeat (first | (with_reducible first | refine zq1 fun _ => ?_ | refine zq2 fun _ => ?_ | refine zq3 ?_) | ((first | refine zq4 ?_ | refine zq5 fun _ _ => ?_ | refine zq6 ?_); simp [-getElem?_pos, z0, z1, z2, hRl, hll, hnn, j2, j2i]) | ((first | refine AWp.ret ?_ | refine AWp.skip ?_ | refine AWp.exit ?_); try simp only [thenP]) | (with_reducible refine zq7 ?_; simp only [blockP, thenP, reduceIte]) | with_reducible refine zq8 ?_)
          (first | refine Exec0.call [] cc ?_ rfl ?_ ?_ | refine Exec.call [] cc ?_ rfl ?_ ?_); (focus simp [-getElem?_pos, hRl, hll, hnn, j2, j2i]); (focus simp [-getElem?_pos, z0, z1, z2, hRl, hll, hnn, j2, j2i]); simp [-getElem?_pos, z0, z1, z2, hRl, hll, hnn, j2, j2i]
          repeat (first | (with_reducible first | refine zq1 fun _ => ?_ | refine zq2 fun _ => ?_ | refine zq3 ?_) | ((first | refine zq4 ?_ | refine zq5 fun _ _ => ?_ | refine zq6 ?_); simp [-getElem?_pos, z0, z1, z2, hRl, hll, hnn, j2, j2i]) | ((first | refine AWp.ret ?_ | refine AWp.skip ?_ | refine AWp.exit ?_); try simp only [thenP]) | (with_reducible refine zq7 ?_; simp only [blockP, thenP, reduceIte]) | with_reducible refine zq8 ?_)
          (first | refine Exec0.call [] cc2 ?_ rfl ?_ ?_ | refine Exec.call [] cc2 ?_ rfl ?_ ?_); (focus simp [-getElem?_pos, hRl, hll, hnn, j2, j2i]); (focus simp [-getElem?_pos, z0, z1, z2, hRl, hll, hnn, j2, j2i]); simp [-getElem?_pos, z0, z1, z2, hRl, hll, hnn, j2, j2i]
          repeat (first | (with_reducible first | refine zq1 fun _ => ?_ | refine zq2 fun _ => ?_ | refine zq3 ?_) | ((first | refine zq4 ?_ | refine zq5 fun _ _ => ?_ | refine zq6 ?_); simp [-getElem?_pos, z0, z1, z2, hRl, hll, hnn, j2, j2i]) | ((first | refine AWp.ret ?_ | refine AWp.skip ?_ | refine AWp.exit ?_); try simp only [thenP]) | (with_reducible refine zq7 ?_; simp only [blockP, thenP, reduceIte]) | with_reducible refine zq8 ?_)
          (first | refine Exec0.call [] cq ?_ rfl ?_ ?_ | refine Exec.call [] cq ?_ rfl ?_ ?_); (focus simp [-getElem?_pos, hRl, hll, hnn, j2, j2i]); (focus simp [-getElem?_pos, z0, z1, z2, hRl, hll, hnn, j2, j2i]); simp [-getElem?_pos, z0, z1, z2, hRl, hll, hnn, j2, j2i]
          repeat (first | (with_reducible first | refine zq1 fun _ => ?_ | refine zq2 fun _ => ?_ | refine zq3 ?_) | ((first | refine zq4 ?_ | refine zq5 fun _ _ => ?_ | refine zq6 ?_); simp [-getElem?_pos, z0, z1, z2, hRl, hll, hnn, j2, j2i]) | ((first | refine AWp.ret ?_ | refine AWp.skip ?_ | refine AWp.exit ?_); try simp only [thenP]) | (with_reducible refine zq7 ?_; simp only [blockP, thenP, reduceIte]) | with_reducible refine zq8 ?_)
          (first | refine Exec0.call [] cw ?_ rfl ?_ ?_ | refine Exec.call [] cw ?_ rfl ?_ ?_); (focus simp [-getElem?_pos, hRl, hll, hnn, j2, j2i]); (focus simp [-getElem?_pos, z0, z1, z2, hRl, hll, hnn, j2, j2i]); simp [-getElem?_pos, z0, z1, z2, hRl, hll, hnn, j2, j2i]
          repeat (first | (with_reducible first | refine zq1 fun _ => ?_ | refine zq2 fun _ => ?_ | refine zq3 ?_) | ((first | refine zq4 ?_ | refine zq5 fun _ _ => ?_ | refine zq6 ?_); simp [-getElem?_pos, z0, z1, z2, z0]) | ((first | refine AWp.ret ?_ | refine AWp.skip ?_ | refine AWp.exit ?_); try simp only [thenP]) | (with_reducible refine zq7 ?_; simp only [blockP, thenP, reduceIte]) | with_reducible refine zq8 ?_)
          (first | refine RR.ret ?_ | refine RR.normal ?_); simp [z0]
    · by_cases hnn : nn = 0
      · subst hnn
        have j1 := hmore rfl
        have j1i : ¬ (S.length : Int) < Ls.length := by omega
        have j1n : ¬ S.length < Ls.length := by omega
        refine acallK tabOk Try.func8 rfl rfl (show 5 ≤ _ by decide) rfl fun _ => ?_; simp only [Try.ntmps8]
        repeat (first | (with_reducible first | refine zq1 fun _ => ?_ | refine zq2 fun _ => ?_ | refine zq3 ?_) | ((first | refine zq4 ?_ | refine zq5 fun _ _ => ?_ | refine zq6 ?_); simp [-getElem?_pos, z0, z1, z2, z0]) | ((first | refine AWp.ret ?_ | refine AWp.skip ?_ | refine AWp.exit ?_); try simp only [thenP]) | (with_reducible refine zq7 ?_; simp only [blockP, thenP, reduceIte]) | with_reducible refine zq8 ?_)
        (first | refine Exec0.call [] cf ?_ rfl ?_ ?_ | refine Exec.call [] cf ?_ rfl ?_ ?_); (focus simp [-getElem?_pos, g1, g1i]); (focus simp [-getElem?_pos, z0, z1, z2, g1, g1i]); simp [-getElem?_pos, z0, z1, z2, g1, g1i]
        (first | refine Exec0.call [] cL ?_ rfl ?_ ?_ | refine Exec.call [] cL ?_ rfl ?_ ?_); (focus simp [-getElem?_pos, z0]); (focus simp [-getElem?_pos, z0, z1, z2, z0]); simp [-getElem?_pos, z0, z1, z2, z0]
        repeat (first | (with_reducible first | refine zq1 fun _ => ?_ | refine zq2 fun _ => ?_ | refine zq3 ?_) | ((first | refine zq4 ?_ | refine zq5 fun _ _ => ?_ | refine zq6 ?_); simp [-getElem?_pos, z0, z1, z2, z0]) | ((first | refine AWp.ret ?_ | refine AWp.skip ?_ | refine AWp.exit ?_); try simp only [thenP]) | (with_reducible refine zq7 ?_; simp only [blockP, thenP, reduceIte]) | with_reducible refine zq8 ?_)
        (first | refine Exec0.call [] cb ?_ rfl ?_ ?_ | refine Exec.call [] cb ?_ rfl ?_ ?_); (focus simp [-getElem?_pos, z0]); (focus simp [-getElem?_pos, z0, z1, z2, z0]); simp [-getElem?_pos, z0, z1, z2, z0]
        repeat (first | (with_reducible first | refine zq1 fun _ => ?_ | refine zq2 fun _ => ?_ | refine zq3 ?_) | ((first | refine zq4 ?_ | refine zq5 fun _ _ => ?_ | refine zq6 ?_); simp [-getElem?_pos, z0, z1, z2, z0]) | ((first | refine AWp.ret ?_ | refine AWp.skip ?_ | refine AWp.exit ?_); try simp only [thenP]) | (with_reducible refine zq7 ?_; simp only [blockP, thenP, reduceIte]) | with_reducible refine zq8 ?_)
        (first | refine Exec0.call [] cr ?_ rfl ?_ ?_ | refine Exec.call [] cr ?_ rfl ?_ ?_); (focus simp [-getElem?_pos, z0]); (focus simp [-getElem?_pos, z0, z1, z2, z0]); simp [-getElem?_pos, z0, z1, z2, z0]
        repeat (first | (with_reducible first | refine zq1 fun _ => ?_ | refine zq2 fun _ => ?_ | refine zq3 ?_) | ((first | refine zq4 ?_ | refine zq5 fun _ _ => ?_ | refine zq6 ?_); simp [-getElem?_pos, z0, z1, z2, z0]) | ((first | refine AWp.ret ?_ | refine AWp.skip ?_ | refine AWp.exit ?_); try simp only [thenP]) | (with_reducible refine zq7 ?_; simp only [blockP, thenP, reduceIte]) | with_reducible refine zq8 ?_)
        (first | refine Exec0.call [] ca ?_ rfl ?_ ?_ | refine Exec.call [] ca ?_ rfl ?_ ?_); (focus simp [-getElem?_pos, hRl, hll, ha0, j1, j1i, j1n]); (focus simp [-getElem?_pos, z0, z1, z2, hRl, hll, ha0, j1, j1i, j1n]); simp [-getElem?_pos, z0, z1, z2, hRl, hll, ha0, j1, j1i, j1n]
        repeat (first | (with_reducible first | refine zq1 fun _ => ?_ | refine zq2 fun _ => ?_ | refine zq3 ?_) | ((first | refine zq4 ?_ | refine zq5 fun _ _ => ?_ | refine zq6 ?_); simp [-getElem?_pos, z0, z1, z2, hRl, hll, ha0, j1, j1i, j1n]) | ((first | refine AWp.ret ?_ | refine AWp.skip ?_ | refine AWp.exit ?_); try simp only [thenP]) | (with_reducible refine zq7 ?_; simp only [blockP, thenP, reduceIte]) | with_reducible refine zq8 ?_)
        (first | refine Exec0.call [] cs ?_ rfl ?_ ?_ | refine Exec.call [] cs ?_ rfl ?_ ?_); (focus simp [-getElem?_pos, hRl, hll, ha0, j1, j1i, j1n]); (focus simp [-getElem?_pos, z0, z1, z2, hRl, hll, ha0, j1, j1i, j1n]); simp [-getElem?_pos, z0, z1, z2, hRl, hll, ha0, j1, j1i, j1n]
        repeat (first | (with_reducible first | refine zq1 fun _ => ?_ | refine zq2 fun _ => ?_ | refine zq3 ?_) | ((first | refine zq4 ?_ | refine zq5 fun _ _ => ?_ | refine zq6 ?_); simp [-getElem?_pos, z0, z1, z2, hRl, hll, ha0, j1, j1i, j1n]) | ((first | refine AWp.ret ?_ | refine AWp.skip ?_ | refine AWp.exit ?_); try simp only [thenP]) | (with_reducible refine zq7 ?_; simp only [blockP, thenP, reduceIte]) | with_reducible refine zq8 ?_)
        (first | refine Exec0.call [] cs2 ?_ rfl ?_ ?_ | refine Exec.call [] cs2 ?_ rfl ?_ ?_); (focus simp [-getElem?_pos, hRl, hll, ha0, j1, j1i, j1n]); (focus simp [-getElem?_pos, z0, z1, z2, hRl, hll, ha0, j1, j1i, j1n]); simp [-getElem?_pos, z0, z1, z2, hRl, hll, ha0, j1, j1i, j1n]
        repeat (first | (with_reducible first | refine zq1 fun _ => ?_ | refine zq2 fun _ => ?_ | refine zq3 ?_) | ((first | refine zq4 ?_ | refine zq5 fun _ _ => ?_ | refine zq6 ?_); simp [-getElem?_pos, z0, z1, z2, hRl, hll, ha0, j1, j1i, j1n]) | ((first | refine AWp.ret ?_ | refine AWp.skip ?_ | refine AWp.exit ?_); try simp only [thenP]) | (with_reducible refine zq7 ?_; simp only [blockP, thenP, reduceIte]) | with_reducible refine zq8 ?_)
        (first | refine Exec0.call [] ck2 ?_ rfl ?_ ?_ | refine Exec.call [] ck2 ?_ rfl ?_ ?_); (focus simp [-getElem?_pos, hRl, hll, ha0, j1, j1i, j1n]); (focus simp [-getElem?_pos, z0, z1, z2, hRl, hll, ha0, j1, j1i, j1n]); simp [-getElem?_pos, z0, z1, z2, hRl, hll, ha0, j1, j1i, j1n]
        repeat (first | (with_reducible first | refine zq1 fun _ => ?_ | refine zq2 fun _ => ?_ | refine zq3 ?_) | ((first | refine zq4 ?_ | refine zq5 fun _ _ => ?_ | refine zq6 ?_); simp [-getElem?_pos, z0, z1, z2, hRl, hll, ha0, j1, j1i, j1n]) | ((first | refine AWp.ret ?_ | refine AWp.skip ?_ | refine AWp.exit ?_); try simp only [thenP]) | (with_reducible refine zq7 ?_; simp only [blockP, thenP, reduceIte]) | with_reducible refine zq8 ?_)
        (first | refine Exec0.call [] cc ?_ rfl ?_ ?_ | refine Exec.call [] cc ?_ rfl ?_ ?_); (focus simp [-getElem?_pos, hRl, hll, ha0, j1, j1i, j1n]); (focus simp [-getElem?_pos, z0, z1, z2, hRl, hll, ha0, j1, j1i, j1n]); simp [-getElem?_pos, z0, z1, z2, hRl, hll, ha0, j1, j1i, j1n]
        repeat (first | (with_reducible first | refine zq1 fun _ => ?_ | refine zq2 fun _ => ?_ | refine zq3 ?_) | ((first | refine zq4 ?_ | refine zq5 fun _ _ => ?_ | refine zq6 ?_); simp [-getElem?_pos, z0, z1, z2, hRl, hll, ha0, j1, j1i, j1n]) | ((first | refine AWp.ret ?_ | refine AWp.skip ?_ | refine AWp.exit ?_); try simp only [thenP]) | (with_reducible refine zq7 ?_; simp only [blockP, thenP, reduceIte]) | with_reducible refine zq8 ?_)
        (first | refine Exec0.call [] cc2 ?_ rfl ?_ ?_ | refine Exec.call [] cc2 ?_ rfl ?_ ?_); (focus simp [-getElem?_pos, hRl, hll, ha0, j1, j1i, j1n]); (focus simp [-getElem?_pos, z0, z1, z2, hRl, hll, ha0, j1, j1i, j1n]); simp [-getElem?_pos, z0, z1, z2, hRl, hll, ha0, j1, j1i, j1n]
        repeat (first | (with_reducible first | refine zq1 fun _ => ?_ | refine zq2 fun _ => ?_ | refine zq3 ?_) | ((first | refine zq4 ?_ | refine zq5 fun _ _ => ?_ | refine zq6 ?_); simp [-getElem?_pos, z0, z1, z2, hRl, hll, ha0, j1, j1i, j1n]) | ((first | refine AWp.ret ?_ | refine AWp.skip ?_ | refine AWp.exit ?_); try simp only [thenP]) | (with_reducible refine zq7 ?_; simp only [blockP, thenP, reduceIte]) | with_reducible refine zq8 ?_)
        (first | refine Exec0.call [] cq ?_ rfl ?_ ?_ | refine Exec.call [] cq ?_ rfl ?_ ?_); (focus simp [-getElem?_pos, hRl, hll, ha0, j1, j1i, j1n]); (focus simp [-getElem?_pos, z0, z1, z2, hRl, hll, ha0, j1, j1i, j1n]); simp [-getElem?_pos, z0, z1, z2, hRl, hll, ha0, j1, j1i, j1n]
        repeat (first | (with_reducible first | refine zq1 fun _ => ?_ | refine zq2 fun _ => ?_ | refine zq3 ?_) | ((first | refine zq4 ?_ | refine zq5 fun _ _ => ?_ | refine zq6 ?_); simp [-getElem?_pos, z0, z1, z2, hRl, hll, ha0, j1, j1i, j1n]) | ((first | refine AWp.ret ?_ | refine AWp.skip ?_ | refine AWp.exit ?_); try simp only [thenP]) | (with_reducible refine zq7 ?_; simp only [blockP, thenP, reduceIte]) | with_reducible refine zq8 ?_)
        (first | refine Exec0.call [] cw ?_ rfl ?_ ?_ | refine Exec.call [] cw ?_ rfl ?_ ?_); (focus simp [-getElem?_pos, hRl, hll, ha0, j1, j1i, j1n]); (focus simp [-getElem?_pos, z0, z1, z2, hRl, hll, ha0, j1, j1i, j1n]); simp [-getElem?_pos, z0, z1, z2, hRl, hll, ha0, j1, j1i, j1n]
        repeat (first | (with_reducible first | refine zq1 fun _ => ?_ | refine zq2 fun _ => ?_ | refine zq3 ?_) | ((first | refine zq4 ?_ | refine zq5 fun _ _ => ?_ | refine zq6 ?_); simp [-getElem?_pos, z0, z1, z2, z0]) | ((first | refine AWp.ret ?_ | refine AWp.skip ?_ | refine AWp.exit ?_); try simp only [thenP]) | (with_reducible refine zq7 ?_; simp only [blockP, thenP, reduceIte]) | with_reducible refine zq8 ?_)
        (first | refine RR.ret ?_ | refine RR.normal ?_); simp [z0]
      · refine acallK tabOk Try.func8 rfl rfl (show 5 ≤ _ by decide) rfl fun _ => ?_; simp only [Try.ntmps8]
        repeat (first | (with_reducible first | refine zq1 fun _ => ?_ | refine zq2 fun _ => ?_ | refine zq3 ?_) | ((first | refine zq4 ?_ | refine zq5 fun _ _ => ?_ | refine zq6 ?_); simp [-getElem?_pos, z0, z1, z2, z0]) | ((first | refine AWp.ret ?_ | refine AWp.skip ?_ | refine AWp.exit ?_); try simp only [thenP]) | (with_reducible refine zq7 ?_; simp only [blockP, thenP, reduceIte]) | with_reducible refine zq8 ?_)
        (first | refine Exec0.call [] cf ?_ rfl ?_ ?_ | refine Exec.call [] cf ?_ rfl ?_ ?_); (focus simp [-getElem?_pos, g1, g1i]); (focus simp [-getElem?_pos, z0, z1, z2, g1, g1i]); simp [-getElem?_pos, z0, z1, z2, g1, g1i]
        (first | refine Exec0.call [] cL ?_ rfl ?_ ?_ | refine Exec.call [] cL ?_ rfl ?_ ?_); (focus simp [-getElem?_pos, z0]); (focus simp [-getElem?_pos, z0, z1, z2, z0]); simp [-getElem?_pos, z0, z1, z2, z0]
        repeat (first | (with_reducible first | refine zq1 fun _ => ?_ | refine zq2 fun _ => ?_ | refine zq3 ?_) | ((first | refine zq4 ?_ | refine zq5 fun _ _ => ?_ | refine zq6 ?_); simp [-getElem?_pos, z0, z1, z2, z0]) | ((first | refine AWp.ret ?_ | refine AWp.skip ?_ | refine AWp.exit ?_); try simp only [thenP]) | (with_reducible refine zq7 ?_; simp only [blockP, thenP, reduceIte]) | with_reducible refine zq8 ?_)
        (first | refine Exec0.call [] cb ?_ rfl ?_ ?_ | refine Exec.call [] cb ?_ rfl ?_ ?_); (focus simp [-getElem?_pos, z0]); (focus simp [-getElem?_pos, z0, z1, z2, z0]); simp [-getElem?_pos, z0, z1, z2, z0]
        repeat (first | (with_reducible first | refine zq1 fun _ => ?_ | refine zq2 fun _ => ?_ | refine zq3 ?_) | ((first | refine zq4 ?_ | refine zq5 fun _ _ => ?_ | refine zq6 ?_); simp [-getElem?_pos, z0, z1, z2, z0]) | ((first | refine AWp.ret ?_ | refine AWp.skip ?_ | refine AWp.exit ?_); try simp only [thenP]) | (with_reducible refine zq7 ?_; simp only [blockP, thenP, reduceIte]) | with_reducible refine zq8 ?_)
        (first | refine Exec0.call [] cr ?_ rfl ?_ ?_ | refine Exec.call [] cr ?_ rfl ?_ ?_); (focus simp [-getElem?_pos, z0]); (focus simp [-getElem?_pos, z0, z1, z2, z0]); simp [-getElem?_pos, z0, z1, z2, z0]
        repeat (first | (with_reducible first | refine zq1 fun _ => ?_ | refine zq2 fun _ => ?_ | refine zq3 ?_) | ((first | refine zq4 ?_ | refine zq5 fun _ _ => ?_ | refine zq6 ?_); simp [-getElem?_pos, z0, z1, z2, z0]) | ((first | refine AWp.ret ?_ | refine AWp.skip ?_ | refine AWp.exit ?_); try simp only [thenP]) | (with_reducible refine zq7 ?_; simp only [blockP, thenP, reduceIte]) | with_reducible refine zq8 ?_)
        (first | refine Exec0.call [] ca ?_ rfl ?_ ?_ | refine Exec.call [] ca ?_ rfl ?_ ?_); (focus simp [-getElem?_pos, hRl, hll, ha0, hnn]); (focus simp [-getElem?_pos, z0, z1, z2, hRl, hll, ha0, hnn]); simp [-getElem?_pos, z0, z1, z2, hRl, hll, ha0, hnn]
        repeat (first | (with_reducible first | refine zq1 fun _ => ?_ | refine zq2 fun _ => ?_ | refine zq3 ?_) | ((first | refine zq4 ?_ | refine zq5 fun _ _ => ?_ | refine zq6 ?_); simp [-getElem?_pos, z0, z1, z2, hRl, hll, ha0, hnn]) | ((first | refine AWp.ret ?_ | refine AWp.skip ?_ | refine AWp.exit ?_); try simp only [thenP]) | (with_reducible refine zq7 ?_; simp only [blockP, thenP, reduceIte]) | with_reducible refine zq8 ?_)
        (first | refine Exec0.call [] cs ?_ rfl ?_ ?_ | refine Exec.call [] cs ?_ rfl ?_ ?_); (focus simp [-getElem?_pos, hRl, hll, ha0, hnn]); (focus simp [-getElem?_pos, z0, z1, z2, hRl, hll, ha0, hnn]); simp [-getElem?_pos, z0, z1, z2, hRl, hll, ha0, hnn]
        repeat (first | (with_reducible first | refine zq1 fun _ => ?_ | refine zq2 fun _ => ?_ | refine zq3 ?_) | ((first | refine zq4 ?_ | refine zq5 fun _ _ => ?_ | refine zq6 ?_); simp [-getElem?_pos, z0, z1, z2, hRl, hll, ha0, hnn]) | ((first | refine AWp.ret ?_ | refine AWp.skip ?_ | refine AWp.exit ?_); try simp only [thenP]) | (with_reducible refine zq7 ?_; simp only [blockP, thenP, reduceIte]) | with_reducible refine zq8 ?_)
        (first | refine Exec0.call [] cs2 ?_ rfl ?_ ?_ | refine Exec.call [] cs2 ?_ rfl ?_ ?_); (focus simp [-getElem?_pos, hRl, hll, ha0, hnn]); (focus simp [-getElem?_pos, z0, z1, z2, hRl, hll, ha0, hnn]); simp [-getElem?_pos, z0, z1, z2, hRl, hll, ha0, hnn]
        repeat (first | (with_reducible first | refine zq1 fun _ => ?_ | refine zq2 fun _ => ?_ | refine zq3 ?_) | ((first | refine zq4 ?_ | refine zq5 fun _ _ => ?_ | refine zq6 ?_); simp [-getElem?_pos, z0, z1, z2, hRl, hll, ha0, hnn]) | ((first | refine AWp.ret ?_ | refine AWp.skip ?_ | refine AWp.exit ?_); try simp only [thenP]) | (with_reducible refine zq7 ?_; simp only [blockP, thenP, reduceIte]) | with_reducible refine zq8 ?_)
        (first | refine Exec0.call [] ck2 ?_ rfl ?_ ?_ | refine Exec.call [] ck2 ?_ rfl ?_ ?_); (focus simp [-getElem?_pos, hRl, hll, ha0, hnn]); (focus simp [-getElem?_pos, z0, z1, z2, hRl, hll, ha0, hnn]); simp [-getElem?_pos, z0, z1, z2, hRl, hll, ha0, hnn]
        repeat (first | (with_reducible first | refine zq1 fun _ => ?_ | refine zq2 fun _ => ?_ | refine zq3 ?_) | ((first | refine zq4 ?_ | refine zq5 fun _ _ => ?_ | refine zq6 ?_); simp [-getElem?_pos, z0, z1, z2, hRl, hll, ha0, hnn]) | ((first | refine AWp.ret ?_ | refine AWp.skip ?_ | refine AWp.exit ?_); try simp only [thenP]) | (with_reducible refine zq7 ?_; simp only [blockP, thenP, reduceIte]) | with_reducible refine zq8 ?_)
        (first | refine Exec0.call [] cc ?_ rfl ?_ ?_ | refine Exec.call [] cc ?_ rfl ?_ ?_); (focus simp [-getElem?_pos, hRl, hll, ha0, hnn]); (focus simp [-getElem?_pos, z0, z1, z2, hRl, hll, ha0, hnn]); simp [-getElem?_pos, z0, z1, z2, hRl, hll, ha0, hnn]
        repeat (first | (with_reducible first | refine zq1 fun _ => ?_ | refine zq2 fun _ => ?_ | refine zq3 ?_) | ((first | refine zq4 ?_ | refine zq5 fun _ _ => ?_ | refine zq6 ?_); simp [-getElem?_pos, z0, z1, z2, hRl, hll, ha0, hnn]) | ((first | refine AWp.ret ?_ | refine AWp.skip ?_ | refine AWp.exit ?_); try simp only [thenP]) | (with_reducible refine zq7 ?_; simp only [blockP, thenP, reduceIte]) | with_reducible refine zq8 ?_)
        (first | refine Exec0.call [] cc2 ?_ rfl ?_ ?_ | refine Exec.call [] cc2 ?_ rfl ?_ ?_); (focus simp [-getElem?_pos, hRl, hll, ha0, hnn]); (focus simp [-getElem?_pos, z0, z1, z2, hRl, hll, ha0, hnn]); simp [-getElem?_pos, z0, z1, z2, hRl, hll, ha0, hnn]
        repeat (first | (with_reducible first | refine zq1 fun _ => ?_ | refine zq2 fun _ => ?_ | refine zq3 ?_) | ((first | refine zq4 ?_ | refine zq5 fun _ _ => ?_ | refine zq6 ?_); simp [-getElem?_pos, z0, z1, z2, hRl, hll, ha0, hnn]) | ((first | refine AWp.ret ?_ | refine AWp.skip ?_ | refine AWp.exit ?_); try simp only [thenP]) | (with_reducible refine zq7 ?_; simp only [blockP, thenP, reduceIte]) | with_reducible refine zq8 ?_)
        (first | refine Exec0.call [] cq ?_ rfl ?_ ?_ | refine Exec.call [] cq ?_ rfl ?_ ?_); (focus simp [-getElem?_pos, hRl, hll, ha0, hnn]); (focus simp [-getElem?_pos, z0, z1, z2, hRl, hll, ha0, hnn]); simp [-getElem?_pos, z0, z1, z2, hRl, hll, ha0, hnn]
        repeat (first | (with_reducible first | refine zq1 fun _ => ?_ | refine zq2 fun _ => ?_ | refine zq3 ?_) | ((first | refine zq4 ?_ | refine zq5 fun _ _ => ?_ | refine zq6 ?_); simp [-getElem?_pos, z0, z1, z2, hRl, hll, ha0, hnn]) | ((first | refine AWp.ret ?_ | refine AWp.skip ?_ | refine AWp.exit ?_); try simp only [thenP]) | (with_reducible refine zq7 ?_; simp only [blockP, thenP, reduceIte]) | with_reducible refine zq8 ?_)
        (first | refine Exec0.call [] cw ?_ rfl ?_ ?_ | refine Exec.call [] cw ?_ rfl ?_ ?_); (focus simp [-getElem?_pos, hRl, hll, ha0, hnn]); (focus simp [-getElem?_pos, z0, z1, z2, hRl, hll, ha0, hnn]); simp [-getElem?_pos, z0, z1, z2, hRl, hll, ha0, hnn]
        repeat (first | (with_reducible first | refine zq1 fun _ => ?_ | refine zq2 fun _ => ?_ | refine zq3 ?_) | ((first | refine zq4 ?_ | refine zq5 fun _ _ => ?_ | refine zq6 ?_); simp [-getElem?_pos, z0, z1, z2, z0]) | ((first | refine AWp.ret ?_ | refine AWp.skip ?_ | refine AWp.exit ?_); try simp only [thenP]) | (with_reducible refine zq7 ?_; simp only [blockP, thenP, reduceIte]) | with_reducible refine zq8 ?_)
        (first | refine RR.ret ?_ | refine RR.normal ?_); simp [z0]
end Go.Proofs.Ytgiomfamlbmpcaa.Eng

namespace Go.Proofs.Ytgiomfamlbmpcaa.honeProved
open Go.ChangeShapes Go.WideShapes Go.ChangeAt Go.RowKit Go.Deep
theorem own : ownKnob Try.prog.godebug = none := by kernel_rfl
theorem kids : Kids Try.prog (· < Try.prog.types.size) := kids_rows (by kernel_rfl) (by kernel_rfl)
theorem full : ∀ t e, t < Try.prog.types.size → Try.prog.underlying t = some (.slice e) → 0 < Try.prog.cellsOf e := slices_full_of Try.prog (by kernel_rfl)
theorem rowed : ∀ t ∈ Try.f8.params.toList, t < Try.prog.types.size := of_decide_eq_true (by kernel_rfl)
set_option maxRecDepth 100000 in
set_option maxHeartbeats 1000000 in
theorem lifted (os : Os) (started : os.Started) (H : Type) (enc : TypeId × Value → H) :
    ReturnsInHanded {} Try.checked os 8 .any (Rows.honeProvedSpec.pre6 enc Try.prog Try.f8 Rows.honeProvedRow.domain false) (Rows.honeProvedSpec.post enc Try.prog Try.f8 false true false false) := by
  refine returnsInHanded_of_change (C := Try.checked) own started (by kernel_rfl) Try.func8
    (ChangeSpec.witness6 (enc := enc) (C := Try.checked) false ⟨#[], #[.slice none 0 0, .agg #[.int .i64 0, .int .i64 0], .agg #[.int .i64 0, .int .i64 0], .slice none 0 0, .slice none 0 0], []⟩ 8 (by kernel_rfl) (by kernel_rfl) (by kernel_rfl) (by kernel_rfl)) ?_
  intro W base args ds gs before hval0 hW hcnd _
  have hval : ∀ (j : Nat) t v, Try.f8.params[j]? = some t → args[j]? = some v → Value.okWide Try.prog W .any base t v := hval0
  have hW' := hW
  obtain ⟨p, q, hA0, hV, rfl, hfz, hnd⟩ := hW
  have hA : DataW.TrodAll enc Try.prog W 0 (fun _ => true) true Try.f8.params.toList args.toList ds p := hA0
  have hAk := hA
  rw [Try.params8] at hA hval
  obtain ⟨v0, vs0, d0, ds0, a0, b0, e0, f0, rfl, h0, t0⟩ := trodAll_cons hA
  obtain ⟨v1, vs1, d1, ds1, a1, b1, e1, f1, rfl, h1, t1⟩ := trodAll_cons t0
  obtain ⟨v2, vs2, d2, ds2, a2, b2, e2, f2, rfl, h2, t2⟩ := trodAll_cons t1
  obtain ⟨v3, vs3, d3, ds3, a3, b3, e3, f3, rfl, h3, t3⟩ := trodAll_cons t2
  obtain ⟨v4, vs4, d4, ds4, a4, b4, e4, f4, rfl, h4, t4⟩ := trodAll_cons t3
  obtain ⟨en, fn, rfl⟩ := trodAll_nil t4
  subst en
  subst fn
  subst e4
  subst f4
  subst e3
  subst f3
  subst e2
  subst f2
  subst e1
  subst f1
  subst f0
  have ea : args = #[v0, v1, v2, v3, v4] := by rw [← Array.toList_inj]; exact e0
  subst ea
  clear e0
  obtain ⟨rfl, rfl⟩ := trodVars_none hV
  clear hA0 hval0 hA
  simp only [List.append_nil] at hW' hAk
  have o0 := hval 0 _ _ rfl rfl
  have o1 := hval 1 _ _ rfl rfl
  have o2 := hval 2 _ _ rfl rfl
  have o3 := hval 3 _ _ rfl rfl
  have o4 := hval 4 _ _ rfl rfl
  clear hval
  obtain ⟨D0, s0, r0⟩ := Eng.open_sh (n := 9) (.sl Eng.shStone) (by kernel_rfl) o0 h0
  obtain ⟨D1, s1, r1⟩ := Eng.open_sh (n := 9) (Eng.shEdge) (by kernel_rfl) o1 h1
  obtain ⟨D2, s2, r2⟩ := Eng.open_sh (n := 9) (Eng.shEdge) (by kernel_rfl) o2 h2
  obtain ⟨D3, s3, r3⟩ := Eng.open_sh (n := 9) (.sl (.int .i64)) (by kernel_rfl) o3 h3
  obtain ⟨D4, s4, r4⟩ := Eng.open_sh (n := 9) (.sl (.sl (.int .i64))) (by kernel_rfl) o4 h4
  obtain ⟨l, rfl⟩ := Eng.box_in s0
  obtain ⟨e, rfl⟩ := Eng.edge_in s1
  obtain ⟨g, rfl⟩ := Eng.edge_in s2
  obtain ⟨t, rfl⟩ := Eng.ints_in s3
  obtain ⟨r, rfl⟩ := Eng.lists_in s4
  refine Calls.mono (Eng.law_true (Eng.honeProved_c l e g t r) rfl (Eng.reps_cons r0 (Eng.reps_cons r1 (Eng.reps_cons r2 (Eng.reps_cons r3 (Eng.reps_cons r4 Eng.reps_nil)))))) fun e W' ⟨he, hb⟩ => ?_
  subst he
  exact ⟨_, rfl, post_later (pv := []) hW' (List.append_nil _).symm (fun _ _ _ => (trodAll_cons_mk (shut_bool Try.underlying4 _) trodAll_mk0))
    (fun sp hsp => Eng.args_later' kids full rowed hAk hb hsp) (fun _ _ => rfl) (ok_one (by kernel_rfl) rfl (okWide_bool_mk Try.underlying4 _)) hb⟩
theorem over : Rows.honeProvedRow.holds Try.pinned (OpenSpec.ofChange Rows.honeProvedSpec) :=
  OpenClaim.holds_of_wide 8 Try.f8 rfl rfl rfl rfl rfl rfl rfl ⟨rfl, rfl, rfl, rfl, rfl⟩ rfl rfl rfl rfl rfl (by kernel_rfl) Try.func8 (by kernel_rfl)
    (of_decide_eq_true (by kernel_rfl)) (by unfold Func.isWrapper; first | (rw [if_pos (by decide +kernel)]; kernel_rfl) | (rw [if_neg (by decide +kernel)]; exact ⟨rfl, rfl⟩))
    (fun os started H enc _ => lifted os started H enc)
theorem proved : Rows.HoneProvedSaid := over
end Go.Proofs.Ytgiomfamlbmpcaa.honeProved
