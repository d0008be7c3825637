/-
  A part of the texts that the claim builds on: see the last one.
-/
import Derived.Test.YtnhhlmikkmjenaaDk27
set_option linter.unusedSimpArgs false
set_option linter.unusedVariables false
/-
  Layer 2: blades as data; the reference's small functions.
-/
namespace Go.Proofs.Ytnhhlmikkmjenaa.Eng
open Go.RowKit

structure Stn where
  angle : Int
  lo : Int
  hi : Int
  hard : Int
structure Blade where
  st : List Stn
  most : Int
abbrev stnRow (s : Stn) : List Dat := [iD s.angle, iD s.lo, iD s.hi, iD s.hard]
def stnRows (l : List Stn) : List (List Dat) := l.map stnRow
@[simp] theorem stnRows_len (l : List Stn) : (stnRows l).length = l.length := List.length_map _
@[simp] theorem stnRows_get (l : List Stn) (i : Nat) : (stnRows l)[i]? = (l[i]?).map stnRow := List.getElem?_map
abbrev bladeD (b : Blade) : Dat := .agg [.list (stnRows b.st), iD b.most]
def absI (n : Int) : Int := if n < 0 then -n else n
def inR (n lo hi : Int) : Bool := decide (lo ≤ n ∧ n ≤ hi)
def stnOk (s : Stn) : Bool := inR s.angle (-100) 100 && inR s.lo (-100) 100 && inR s.hi (-100) 100 && decide (s.lo ≤ s.hi) && inR s.hard 1 9
def bladeErr (b : Blade) : Int := if b.st.length < 1 ∨ 20 < b.st.length then 6 else if b.st.all stnOk = false then 3 else if inR b.most 0 200 = false then 2 else 0

theorem amount_c (n : Int) (h : -1000000 ≤ n ∧ n ≤ 1000000) : ACall Try.prog 50 [iD n] (iD (absI n)) := by
  have w : IntKind.i64.wrap (-n) = -n := wrap64_in (by omega)
  by_cases g : n < 0
  · have e : absI n = -n := if_pos g
    rw [e]
    refine acallK tabOk Try.func50 rfl rfl (show 1 ≤ _ by decide) rfl fun _ => ?_; simp only [Try.ntmps50]
    repeat (first | (with_reducible refine AWp.seqK fun _ => ?_) | (with_reducible refine AWp.blockK fun _ => ?_) | (with_reducible refine KK.go ?_) | (refine AWp.reg tabOk ?_; simp [-getElem?_pos, z0, z1, z2, g, w]) | (refine AWp.condK fun _ _ => ?_; simp [-getElem?_pos, z0, z1, z2, g, w]) | (refine AWp.ret ?_; try simp only [thenP]) | (refine AWp.skip ?_; try simp only [thenP]) | (refine AWp.exit ?_; try simp only [thenP]) | (with_reducible refine AWp.scopeK fun _ => ?_) | (refine AWp.label ?_; try simp only [thenP]) | (with_reducible refine SS.go (fun _ h => by cases h) ?_; try simp only [blockP, thenP]) | (with_reducible refine BB.go ?_; simp only [blockP, thenP, if_true, if_false, reduceIte]) | (refine AWp.draws tabOk (by kernel_rfl) (by kernel_rfl) ?_; simp [-getElem?_pos, z0, z1, z2, g, w]) | (with_reducible refine And.intro (show okLog _ _ = true from by kernel_rfl) ?_))
    (first | refine RR.ret ?_ | refine RR.normal ?_); simp []
  · have e : absI n = n := if_neg g
    rw [e]
    refine acallK tabOk Try.func50 rfl rfl (show 1 ≤ _ by decide) rfl fun _ => ?_; simp only [Try.ntmps50]
    repeat (first | (with_reducible refine AWp.seqK fun _ => ?_) | (with_reducible refine AWp.blockK fun _ => ?_) | (with_reducible refine KK.go ?_) | (refine AWp.reg tabOk ?_; simp [-getElem?_pos, z0, z1, z2, g, w]) | (refine AWp.condK fun _ _ => ?_; simp [-getElem?_pos, z0, z1, z2, g, w]) | (refine AWp.ret ?_; try simp only [thenP]) | (refine AWp.skip ?_; try simp only [thenP]) | (refine AWp.exit ?_; try simp only [thenP]) | (with_reducible refine AWp.scopeK fun _ => ?_) | (refine AWp.label ?_; try simp only [thenP]) | (with_reducible refine SS.go (fun _ h => by cases h) ?_; try simp only [blockP, thenP]) | (with_reducible refine BB.go ?_; simp only [blockP, thenP, if_true, if_false, reduceIte]) | (refine AWp.draws tabOk (by kernel_rfl) (by kernel_rfl) ?_; simp [-getElem?_pos, z0, z1, z2, g, w]) | (with_reducible refine And.intro (show okLog _ _ = true from by kernel_rfl) ?_))
    (first | refine RR.ret ?_ | refine RR.normal ?_); simp []
theorem inside_c (n lo hi : Int) : ACall Try.prog 47 [iD n, iD lo, iD hi] (bD (inR n lo hi)) := by
  by_cases g : lo ≤ n
  · by_cases k : n ≤ hi
    · have e : inR n lo hi = true := decide_eq_true ⟨g, k⟩
      rw [e]
      refine acallK tabOk Try.func47 rfl rfl (show 3 ≤ _ by decide) rfl fun _ => ?_; simp only [Try.ntmps47]
      repeat (first | (with_reducible refine AWp.seqK fun _ => ?_) | (with_reducible refine AWp.blockK fun _ => ?_) | (with_reducible refine KK.go ?_) | (refine AWp.reg tabOk ?_; simp [-getElem?_pos, z0, z1, z2, g, k]) | (refine AWp.condK fun _ _ => ?_; simp [-getElem?_pos, z0, z1, z2, g, k]) | (refine AWp.ret ?_; try simp only [thenP]) | (refine AWp.skip ?_; try simp only [thenP]) | (refine AWp.exit ?_; try simp only [thenP]) | (with_reducible refine AWp.scopeK fun _ => ?_) | (refine AWp.label ?_; try simp only [thenP]) | (with_reducible refine SS.go (fun _ h => by cases h) ?_; try simp only [blockP, thenP]) | (with_reducible refine BB.go ?_; simp only [blockP, thenP, if_true, if_false, reduceIte]) | (refine AWp.draws tabOk (by kernel_rfl) (by kernel_rfl) ?_; simp [-getElem?_pos, z0, z1, z2, g, k]) | (with_reducible refine And.intro (show okLog _ _ = true from by kernel_rfl) ?_))
      (first | refine RR.ret ?_ | refine RR.normal ?_); simp []
    · have e : inR n lo hi = false := decide_eq_false fun h => k h.2
      rw [e]
      refine acallK tabOk Try.func47 rfl rfl (show 3 ≤ _ by decide) rfl fun _ => ?_; simp only [Try.ntmps47]
      repeat (first | (with_reducible refine AWp.seqK fun _ => ?_) | (with_reducible refine AWp.blockK fun _ => ?_) | (with_reducible refine KK.go ?_) | (refine AWp.reg tabOk ?_; simp [-getElem?_pos, z0, z1, z2, g, k]) | (refine AWp.condK fun _ _ => ?_; simp [-getElem?_pos, z0, z1, z2, g, k]) | (refine AWp.ret ?_; try simp only [thenP]) | (refine AWp.skip ?_; try simp only [thenP]) | (refine AWp.exit ?_; try simp only [thenP]) | (with_reducible refine AWp.scopeK fun _ => ?_) | (refine AWp.label ?_; try simp only [thenP]) | (with_reducible refine SS.go (fun _ h => by cases h) ?_; try simp only [blockP, thenP]) | (with_reducible refine BB.go ?_; simp only [blockP, thenP, if_true, if_false, reduceIte]) | (refine AWp.draws tabOk (by kernel_rfl) (by kernel_rfl) ?_; simp [-getElem?_pos, z0, z1, z2, g, k]) | (with_reducible refine And.intro (show okLog _ _ = true from by kernel_rfl) ?_))
      (first | refine RR.ret ?_ | refine RR.normal ?_); simp []
  · have e : inR n lo hi = false := decide_eq_false fun h => g h.1
    rw [e]
    refine acallK tabOk Try.func47 rfl rfl (show 3 ≤ _ by decide) rfl fun _ => ?_; simp only [Try.ntmps47]
    repeat (first | (with_reducible refine AWp.seqK fun _ => ?_) | (with_reducible refine AWp.blockK fun _ => ?_) | (with_reducible refine KK.go ?_) | (refine AWp.reg tabOk ?_; simp [-getElem?_pos, z0, z1, z2, g]) | (refine AWp.condK fun _ _ => ?_; simp [-getElem?_pos, z0, z1, z2, g]) | (refine AWp.ret ?_; try simp only [thenP]) | (refine AWp.skip ?_; try simp only [thenP]) | (refine AWp.exit ?_; try simp only [thenP]) | (with_reducible refine AWp.scopeK fun _ => ?_) | (refine AWp.label ?_; try simp only [thenP]) | (with_reducible refine SS.go (fun _ h => by cases h) ?_; try simp only [blockP, thenP]) | (with_reducible refine BB.go ?_; simp only [blockP, thenP, if_true, if_false, reduceIte]) | (refine AWp.draws tabOk (by kernel_rfl) (by kernel_rfl) ?_; simp [-getElem?_pos, z0, z1, z2, g]) | (with_reducible refine And.intro (show okLog _ _ = true from by kernel_rfl) ?_))
    (first | refine RR.ret ?_ | refine RR.normal ?_); simp []
end Go.Proofs.Ytnhhlmikkmjenaa.Eng

/-
  Layer 2: which blades are valid, in the reference.
-/
namespace Go.Proofs.Ytnhhlmikkmjenaa.Eng
open Go.RowKit

theorem all_take {α : Type} {l : List α} {k : Nat} {x : α} (h : l[k]? = some x) (p : α → Bool) : (l.take (k + 1)).all p = ((l.take k).all p && p x) := by
  obtain ⟨hk, rfl⟩ := List.getElem?_eq_some_iff.1 h
  rw [List.take_succ_eq_append_getElem hk, List.all_append]
  simp
theorem all_not {α : Type} {l : List α} {k : Nat} {x : α} (h : l[k]? = some x) {p : α → Bool} (hp : p x = false) : l.all p = false := by
  rw [List.all_eq_false]
  exact ⟨x, List.mem_of_getElem? h, by simp [hp]⟩
theorem bladeErr_6 {b : Blade} (h : b.st.length < 1 ∨ 20 < b.st.length) : bladeErr b = 6 := if_pos h
theorem bladeErr_3 {b : Blade} (h : ¬ (b.st.length < 1 ∨ 20 < b.st.length)) (h2 : b.st.all stnOk = false) : bladeErr b = 3 := by rw [bladeErr, if_neg h, if_pos h2]
theorem bladeErr_2 {b : Blade} (h : ¬ (b.st.length < 1 ∨ 20 < b.st.length)) (h2 : b.st.all stnOk = true) (h3 : inR b.most 0 200 = false) : bladeErr b = 2 := by rw [bladeErr, if_neg h, if_neg (by simp [h2]), if_pos h3]
theorem bladeErr_0 {b : Blade} (h : ¬ (b.st.length < 1 ∨ 20 < b.st.length)) (h2 : b.st.all stnOk = true) (h3 : inR b.most 0 200 = true) : bladeErr b = 0 := by rw [bladeErr, if_neg h, if_neg (by simp [h2]), if_neg (by simp [h3])]
set_option maxRecDepth 100000 in
set_option maxHeartbeats 4000000 in
theorem refCheckBlade_c (b : Blade) : ACall Try.prog 23 [bladeD b] (iD (bladeErr b)) := by
  by_cases h1 : b.st.length < 1
  · rw [bladeErr_6 (.inl h1)]
    refine acallK tabOk Try.func23 rfl rfl (show 1 ≤ _ by decide) rfl fun _ => ?_; simp only [Try.ntmps23]
    have h1' : b.st.length = 0 := by omega
    have h1'' : b.st = [] := List.eq_nil_of_length_eq_zero h1'
    repeat (first | (with_reducible refine AWp.seqK fun _ => ?_) | (with_reducible refine AWp.blockK fun _ => ?_) | (with_reducible refine KK.go ?_) | (refine AWp.reg tabOk ?_; simp [-getElem?_pos, z0, z1, z2, h1', h1'']) | (refine AWp.condK fun _ _ => ?_; simp [-getElem?_pos, z0, z1, z2, h1', h1'']) | (refine AWp.ret ?_; try simp only [thenP]) | (refine AWp.skip ?_; try simp only [thenP]) | (refine AWp.exit ?_; try simp only [thenP]) | (with_reducible refine AWp.scopeK fun _ => ?_) | (refine AWp.label ?_; try simp only [thenP]) | (with_reducible refine SS.go (fun _ h => by cases h) ?_; try simp only [blockP, thenP]) | (with_reducible refine BB.go ?_; simp only [blockP, thenP, if_true, if_false, reduceIte]) | (refine AWp.draws tabOk (by kernel_rfl) (by kernel_rfl) ?_; simp [-getElem?_pos, z0, z1, z2, h1', h1'']) | (with_reducible refine And.intro (show okLog _ _ = true from by kernel_rfl) ?_))
    (first | refine RR.ret ?_ | refine RR.normal ?_); simp []
  by_cases h2 : 20 < b.st.length
  · rw [bladeErr_6 (.inr h2)]
    have h1' : ¬ ((b.st.length : Int) < 1) := by omega
    have h2' : (20 : Int) < b.st.length := by omega
    refine acallK tabOk Try.func23 rfl rfl (show 1 ≤ _ by decide) rfl fun _ => ?_; simp only [Try.ntmps23]
    repeat (first | (with_reducible refine AWp.seqK fun _ => ?_) | (with_reducible refine AWp.blockK fun _ => ?_) | (with_reducible refine KK.go ?_) | (refine AWp.reg tabOk ?_; simp [-getElem?_pos, z0, z1, z2, h1', h2']) | (refine AWp.condK fun _ _ => ?_; simp [-getElem?_pos, z0, z1, z2, h1', h2']) | (refine AWp.ret ?_; try simp only [thenP]) | (refine AWp.skip ?_; try simp only [thenP]) | (refine AWp.exit ?_; try simp only [thenP]) | (with_reducible refine AWp.scopeK fun _ => ?_) | (refine AWp.label ?_; try simp only [thenP]) | (with_reducible refine SS.go (fun _ h => by cases h) ?_; try simp only [blockP, thenP]) | (with_reducible refine BB.go ?_; simp only [blockP, thenP, if_true, if_false, reduceIte]) | (refine AWp.draws tabOk (by kernel_rfl) (by kernel_rfl) ?_; simp [-getElem?_pos, z0, z1, z2, h1', h2']) | (with_reducible refine And.intro (show okLog _ _ = true from by kernel_rfl) ?_))
    (first | refine RR.ret ?_ | refine RR.normal ?_); simp []
  have hn : ¬ (b.st.length < 1 ∨ 20 < b.st.length) := by omega
  have h1' : ¬ ((b.st.length : Int) < 1) := by omega
  have h2' : ¬ (20 : Int) < b.st.length := by omega
  obtain ⟨e, he⟩ : ∃ e, e = bladeErr b := ⟨_, rfl⟩
  rw [← he]
  refine acallK tabOk Try.func23 rfl rfl (show 1 ≤ _ by decide) rfl fun _ => ?_; simp only [Try.ntmps23]
  repeat (first | (with_reducible refine AWp.seqK fun _ => ?_) | (with_reducible refine AWp.blockK fun _ => ?_) | (with_reducible refine KK.go ?_) | (refine AWp.reg tabOk ?_; simp [-getElem?_pos, z0, z1, z2, h1', h2']) | (refine AWp.condK fun _ _ => ?_; simp [-getElem?_pos, z0, z1, z2, h1', h2']) | (refine AWp.ret ?_; try simp only [thenP]) | (refine AWp.skip ?_; try simp only [thenP]) | (refine AWp.exit ?_; try simp only [thenP]) | (with_reducible refine AWp.scopeK fun _ => ?_) | (refine AWp.label ?_; try simp only [thenP]) | (with_reducible refine SS.go (fun _ h => by cases h) ?_; try simp only [blockP, thenP]) | (with_reducible refine BB.go ?_; simp only [blockP, thenP, if_true, if_false, reduceIte]) | (refine AWp.draws tabOk (by kernel_rfl) (by kernel_rfl) ?_; simp [-getElem?_pos, z0, z1, z2, h1', h2']) | (with_reducible refine And.intro (show okLog _ _ = true from by kernel_rfl) ?_))
  refine AWp.loopK (ι := { k : Nat // k ≤ b.st.length ∧ (b.st.take k).all stnOk = true }) (n := 1) (fun k => [(1, .ptr 0 0 0), (3, .d (iD k.1))]) (fun _ => [(0, .box 24 [.d (.list (stnRows b.st)), .d (iD b.most)] false)]) (fun k => b.st.length - k.1) ⟨0, Nat.zero_le _, by simp⟩ [0] ?_ ?_
  · refine ⟨by rfl, by simp [], by simp [or_imp, forall_and, ] <;> (try (intro _hne; simp [_hne])), by decide⟩
  rintro ⟨k, hk, hall⟩ kk
  have w1 : IntKind.i64.wrap ((k : Int) + 1) = (k : Int) + 1 := wrap64_in (by omega)
  by_cases hlt : k < b.st.length
  · obtain ⟨s, hs⟩ : ∃ s, b.st[k]? = some s := ⟨_, List.getElem?_eq_getElem hlt⟩
    have c1 := inside_c s.angle (-100) 100
    have c2 := inside_c s.lo (-100) 100
    have c3 := inside_c s.hi (-100) 100
    have c5 := inside_c s.hard 1 9
    by_cases hok : stnOk s = true
    · have hall2 : (b.st.take (k + 1)).all stnOk = true := by rw [all_take hs, hall, hok]; rfl
      simp only [stnOk, Bool.and_eq_true, decide_eq_true_eq] at hok
      obtain ⟨⟨⟨⟨g1, g2⟩, g3⟩, g4⟩, g5⟩ := hok
      rw [g1] at c1
      rw [g2] at c2
      rw [g3] at c3
      rw [g5] at c5
      have g4' : ¬ s.hi < s.lo := by omega
      repeat (first | (with_reducible refine AWp.seqK fun _ => ?_) | (with_reducible refine AWp.blockK fun _ => ?_) | (with_reducible refine KK.go ?_) | (refine AWp.reg tabOk ?_; simp [-getElem?_pos, z0, z1, z2, hlt, hs]) | (refine AWp.condK fun _ _ => ?_; simp [-getElem?_pos, z0, z1, z2, hlt, hs]) | (refine AWp.ret ?_; try simp only [thenP]) | (refine AWp.skip ?_; try simp only [thenP]) | (refine AWp.exit ?_; try simp only [thenP]) | (with_reducible refine AWp.scopeK fun _ => ?_) | (refine AWp.label ?_; try simp only [thenP]) | (with_reducible refine SS.go (fun _ h => by cases h) ?_; try simp only [blockP, thenP]) | (with_reducible refine BB.go ?_; simp only [blockP, thenP, if_true, if_false, reduceIte]) | (refine AWp.draws tabOk (by kernel_rfl) (by kernel_rfl) ?_; simp [-getElem?_pos, z0, z1, z2, hlt, hs]) | (with_reducible refine And.intro (show okLog _ _ = true from by kernel_rfl) ?_))
      (first | refine Exec0.call [] c1 ?_ rfl ?_ ?_ | refine Exec.call [] c1 ?_ rfl ?_ ?_); (focus simp [-getElem?_pos, hs]); (focus simp [-getElem?_pos, z0, z1, z2, hs]); simp [-getElem?_pos, z0, z1, z2, hs]
      (first | refine Exec0.call [] c2 ?_ rfl ?_ ?_ | refine Exec.call [] c2 ?_ rfl ?_ ?_); (focus simp [-getElem?_pos, hs]); (focus simp [-getElem?_pos, z0, z1, z2, hs]); simp [-getElem?_pos, z0, z1, z2, hs]
      (first | refine Exec0.call [] c3 ?_ rfl ?_ ?_ | refine Exec.call [] c3 ?_ rfl ?_ ?_); (focus simp [-getElem?_pos, hs, g4']); (focus simp [-getElem?_pos, z0, z1, z2, hs, g4']); simp [-getElem?_pos, z0, z1, z2, hs, g4']
      (first | refine Exec0.call [] c5 ?_ rfl ?_ ?_ | refine Exec.call [] c5 ?_ rfl ?_ ?_); (focus simp [-getElem?_pos, hs]); (focus simp [-getElem?_pos, z0, z1, z2, hs]); simp [-getElem?_pos, z0, z1, z2, hs]
      repeat (first | (with_reducible refine AWp.seqK fun _ => ?_) | (with_reducible refine AWp.blockK fun _ => ?_) | (with_reducible refine KK.go ?_) | (refine AWp.reg tabOk ?_; simp [-getElem?_pos, z0, z1, z2, hlt, hs, w1]) | (refine AWp.condK fun _ _ => ?_; simp [-getElem?_pos, z0, z1, z2, hlt, hs, w1]) | (refine AWp.ret ?_; try simp only [thenP]) | (refine AWp.skip ?_; try simp only [thenP]) | (refine AWp.exit ?_; try simp only [thenP]) | (with_reducible refine AWp.scopeK fun _ => ?_) | (refine AWp.label ?_; try simp only [thenP]) | (with_reducible refine SS.go (fun _ h => by cases h) ?_; try simp only [blockP, thenP]) | (with_reducible refine BB.go ?_; simp only [blockP, thenP, if_true, if_false, reduceIte]) | (refine AWp.draws tabOk (by kernel_rfl) (by kernel_rfl) ?_; simp [-getElem?_pos, z0, z1, z2, hlt, hs, w1]) | (with_reducible refine And.intro (show okLog _ _ = true from by kernel_rfl) ?_))
      refine LL.go ⟨k + 1, hlt, hall2⟩ [0] ⟨by rfl, by simp [], by simp [or_imp, forall_and, ] <;> (try (intro _hne; simp [_hne])), by decide⟩ ?_
      simp; omega
    · have e3 : e = 3 := by rw [he]; exact bladeErr_3 hn (all_not hs (by simpa using hok))
      rcases g1 : inR s.angle (-100) 100 <;> rw [g1] at c1
      · repeat (first | (with_reducible refine AWp.seqK fun _ => ?_) | (with_reducible refine AWp.blockK fun _ => ?_) | (with_reducible refine KK.go ?_) | (refine AWp.reg tabOk ?_; simp [-getElem?_pos, z0, z1, z2, hlt, hs]) | (refine AWp.condK fun _ _ => ?_; simp [-getElem?_pos, z0, z1, z2, hlt, hs]) | (refine AWp.ret ?_; try simp only [thenP]) | (refine AWp.skip ?_; try simp only [thenP]) | (refine AWp.exit ?_; try simp only [thenP]) | (with_reducible refine AWp.scopeK fun _ => ?_) | (refine AWp.label ?_; try simp only [thenP]) | (with_reducible refine SS.go (fun _ h => by cases h) ?_; try simp only [blockP, thenP]) | (with_reducible refine BB.go ?_; simp only [blockP, thenP, if_true, if_false, reduceIte]) | (refine AWp.draws tabOk (by kernel_rfl) (by kernel_rfl) ?_; simp [-getElem?_pos, z0, z1, z2, hlt, hs]) | (with_reducible refine And.intro (show okLog _ _ = true from by kernel_rfl) ?_))
        (first | refine Exec0.call [] c1 ?_ rfl ?_ ?_ | refine Exec.call [] c1 ?_ rfl ?_ ?_); (focus simp [-getElem?_pos, hs]); (focus simp [-getElem?_pos, z0, z1, z2, hs]); simp [-getElem?_pos, z0, z1, z2, hs]
        repeat (first | (with_reducible refine AWp.seqK fun _ => ?_) | (with_reducible refine AWp.blockK fun _ => ?_) | (with_reducible refine KK.go ?_) | (refine AWp.reg tabOk ?_; simp [-getElem?_pos, z0, z1, z2, hs]) | (refine AWp.condK fun _ _ => ?_; simp [-getElem?_pos, z0, z1, z2, hs]) | (refine AWp.ret ?_; try simp only [thenP]) | (refine AWp.skip ?_; try simp only [thenP]) | (refine AWp.exit ?_; try simp only [thenP]) | (with_reducible refine AWp.scopeK fun _ => ?_) | (refine AWp.label ?_; try simp only [thenP]) | (with_reducible refine SS.go (fun _ h => by cases h) ?_; try simp only [blockP, thenP]) | (with_reducible refine BB.go ?_; simp only [blockP, thenP, if_true, if_false, reduceIte]) | (refine AWp.draws tabOk (by kernel_rfl) (by kernel_rfl) ?_; simp [-getElem?_pos, z0, z1, z2, hs]) | (with_reducible refine And.intro (show okLog _ _ = true from by kernel_rfl) ?_))
        (first | refine RR.ret ?_ | refine RR.normal ?_); simp [e3]
      rcases g2 : inR s.lo (-100) 100 <;> rw [g2] at c2
      · repeat (first | (with_reducible refine AWp.seqK fun _ => ?_) | (with_reducible refine AWp.blockK fun _ => ?_) | (with_reducible refine KK.go ?_) | (refine AWp.reg tabOk ?_; simp [-getElem?_pos, z0, z1, z2, hlt, hs]) | (refine AWp.condK fun _ _ => ?_; simp [-getElem?_pos, z0, z1, z2, hlt, hs]) | (refine AWp.ret ?_; try simp only [thenP]) | (refine AWp.skip ?_; try simp only [thenP]) | (refine AWp.exit ?_; try simp only [thenP]) | (with_reducible refine AWp.scopeK fun _ => ?_) | (refine AWp.label ?_; try simp only [thenP]) | (with_reducible refine SS.go (fun _ h => by cases h) ?_; try simp only [blockP, thenP]) | (with_reducible refine BB.go ?_; simp only [blockP, thenP, if_true, if_false, reduceIte]) | (refine AWp.draws tabOk (by kernel_rfl) (by kernel_rfl) ?_; simp [-getElem?_pos, z0, z1, z2, hlt, hs]) | (with_reducible refine And.intro (show okLog _ _ = true from by kernel_rfl) ?_))
        (first | refine Exec0.call [] c1 ?_ rfl ?_ ?_ | refine Exec.call [] c1 ?_ rfl ?_ ?_); (focus simp [-getElem?_pos, hs]); (focus simp [-getElem?_pos, z0, z1, z2, hs]); simp [-getElem?_pos, z0, z1, z2, hs]
        (first | refine Exec0.call [] c2 ?_ rfl ?_ ?_ | refine Exec.call [] c2 ?_ rfl ?_ ?_); (focus simp [-getElem?_pos, hs]); (focus simp [-getElem?_pos, z0, z1, z2, hs]); simp [-getElem?_pos, z0, z1, z2, hs]
        repeat (first | (with_reducible refine AWp.seqK fun _ => ?_) | (with_reducible refine AWp.blockK fun _ => ?_) | (with_reducible refine KK.go ?_) | (refine AWp.reg tabOk ?_; simp [-getElem?_pos, z0, z1, z2, hs]) | (refine AWp.condK fun _ _ => ?_; simp [-getElem?_pos, z0, z1, z2, hs]) | (refine AWp.ret ?_; try simp only [thenP]) | (refine AWp.skip ?_; try simp only [thenP]) | (refine AWp.exit ?_; try simp only [thenP]) | (with_reducible refine AWp.scopeK fun _ => ?_) | (refine AWp.label ?_; try simp only [thenP]) | (with_reducible refine SS.go (fun _ h => by cases h) ?_; try simp only [blockP, thenP]) | (with_reducible refine BB.go ?_; simp only [blockP, thenP, if_true, if_false, reduceIte]) | (refine AWp.draws tabOk (by kernel_rfl) (by kernel_rfl) ?_; simp [-getElem?_pos, z0, z1, z2, hs]) | (with_reducible refine And.intro (show okLog _ _ = true from by kernel_rfl) ?_))
        (first | refine RR.ret ?_ | refine RR.normal ?_); simp [e3]
      rcases g3 : inR s.hi (-100) 100 <;> rw [g3] at c3
      · repeat (first | (with_reducible refine AWp.seqK fun _ => ?_) | (with_reducible refine AWp.blockK fun _ => ?_) | (with_reducible refine KK.go ?_) | (refine AWp.reg tabOk ?_; simp [-getElem?_pos, z0, z1, z2, hlt, hs]) | (refine AWp.condK fun _ _ => ?_; simp [-getElem?_pos, z0, z1, z2, hlt, hs]) | (refine AWp.ret ?_; try simp only [thenP]) | (refine AWp.skip ?_; try simp only [thenP]) | (refine AWp.exit ?_; try simp only [thenP]) | (with_reducible refine AWp.scopeK fun _ => ?_) | (refine AWp.label ?_; try simp only [thenP]) | (with_reducible refine SS.go (fun _ h => by cases h) ?_; try simp only [blockP, thenP]) | (with_reducible refine BB.go ?_; simp only [blockP, thenP, if_true, if_false, reduceIte]) | (refine AWp.draws tabOk (by kernel_rfl) (by kernel_rfl) ?_; simp [-getElem?_pos, z0, z1, z2, hlt, hs]) | (with_reducible refine And.intro (show okLog _ _ = true from by kernel_rfl) ?_))
        (first | refine Exec0.call [] c1 ?_ rfl ?_ ?_ | refine Exec.call [] c1 ?_ rfl ?_ ?_); (focus simp [-getElem?_pos, hs]); (focus simp [-getElem?_pos, z0, z1, z2, hs]); simp [-getElem?_pos, z0, z1, z2, hs]
        (first | refine Exec0.call [] c2 ?_ rfl ?_ ?_ | refine Exec.call [] c2 ?_ rfl ?_ ?_); (focus simp [-getElem?_pos, hs]); (focus simp [-getElem?_pos, z0, z1, z2, hs]); simp [-getElem?_pos, z0, z1, z2, hs]
        (first | refine Exec0.call [] c3 ?_ rfl ?_ ?_ | refine Exec.call [] c3 ?_ rfl ?_ ?_); (focus simp [-getElem?_pos, hs]); (focus simp [-getElem?_pos, z0, z1, z2, hs]); simp [-getElem?_pos, z0, z1, z2, hs]
        repeat (first | (with_reducible refine AWp.seqK fun _ => ?_) | (with_reducible refine AWp.blockK fun _ => ?_) | (with_reducible refine KK.go ?_) | (refine AWp.reg tabOk ?_; simp [-getElem?_pos, z0, z1, z2, hs]) | (refine AWp.condK fun _ _ => ?_; simp [-getElem?_pos, z0, z1, z2, hs]) | (refine AWp.ret ?_; try simp only [thenP]) | (refine AWp.skip ?_; try simp only [thenP]) | (refine AWp.exit ?_; try simp only [thenP]) | (with_reducible refine AWp.scopeK fun _ => ?_) | (refine AWp.label ?_; try simp only [thenP]) | (with_reducible refine SS.go (fun _ h => by cases h) ?_; try simp only [blockP, thenP]) | (with_reducible refine BB.go ?_; simp only [blockP, thenP, if_true, if_false, reduceIte]) | (refine AWp.draws tabOk (by kernel_rfl) (by kernel_rfl) ?_; simp [-getElem?_pos, z0, z1, z2, hs]) | (with_reducible refine And.intro (show okLog _ _ = true from by kernel_rfl) ?_))
        (first | refine RR.ret ?_ | refine RR.normal ?_); simp [e3]
      by_cases g4 : s.hi < s.lo
      · repeat (first | (with_reducible refine AWp.seqK fun _ => ?_) | (with_reducible refine AWp.blockK fun _ => ?_) | (with_reducible refine KK.go ?_) | (refine AWp.reg tabOk ?_; simp [-getElem?_pos, z0, z1, z2, hlt, hs]) | (refine AWp.condK fun _ _ => ?_; simp [-getElem?_pos, z0, z1, z2, hlt, hs]) | (refine AWp.ret ?_; try simp only [thenP]) | (refine AWp.skip ?_; try simp only [thenP]) | (refine AWp.exit ?_; try simp only [thenP]) | (with_reducible refine AWp.scopeK fun _ => ?_) | (refine AWp.label ?_; try simp only [thenP]) | (with_reducible refine SS.go (fun _ h => by cases h) ?_; try simp only [blockP, thenP]) | (with_reducible refine BB.go ?_; simp only [blockP, thenP, if_true, if_false, reduceIte]) | (refine AWp.draws tabOk (by kernel_rfl) (by kernel_rfl) ?_; simp [-getElem?_pos, z0, z1, z2, hlt, hs]) | (with_reducible refine And.intro (show okLog _ _ = true from by kernel_rfl) ?_))
        (first | refine Exec0.call [] c1 ?_ rfl ?_ ?_ | refine Exec.call [] c1 ?_ rfl ?_ ?_); (focus simp [-getElem?_pos, hs]); (focus simp [-getElem?_pos, z0, z1, z2, hs]); simp [-getElem?_pos, z0, z1, z2, hs]
        (first | refine Exec0.call [] c2 ?_ rfl ?_ ?_ | refine Exec.call [] c2 ?_ rfl ?_ ?_); (focus simp [-getElem?_pos, hs]); (focus simp [-getElem?_pos, z0, z1, z2, hs]); simp [-getElem?_pos, z0, z1, z2, hs]
        (first | refine Exec0.call [] c3 ?_ rfl ?_ ?_ | refine Exec.call [] c3 ?_ rfl ?_ ?_); (focus simp [-getElem?_pos, hs, g4]); (focus simp [-getElem?_pos, z0, z1, z2, hs, g4]); simp [-getElem?_pos, z0, z1, z2, hs, g4]
        repeat (first | (with_reducible refine AWp.seqK fun _ => ?_) | (with_reducible refine AWp.blockK fun _ => ?_) | (with_reducible refine KK.go ?_) | (refine AWp.reg tabOk ?_; simp [-getElem?_pos, z0, z1, z2, hs]) | (refine AWp.condK fun _ _ => ?_; simp [-getElem?_pos, z0, z1, z2, hs]) | (refine AWp.ret ?_; try simp only [thenP]) | (refine AWp.skip ?_; try simp only [thenP]) | (refine AWp.exit ?_; try simp only [thenP]) | (with_reducible refine AWp.scopeK fun _ => ?_) | (refine AWp.label ?_; try simp only [thenP]) | (with_reducible refine SS.go (fun _ h => by cases h) ?_; try simp only [blockP, thenP]) | (with_reducible refine BB.go ?_; simp only [blockP, thenP, if_true, if_false, reduceIte]) | (refine AWp.draws tabOk (by kernel_rfl) (by kernel_rfl) ?_; simp [-getElem?_pos, z0, z1, z2, hs]) | (with_reducible refine And.intro (show okLog _ _ = true from by kernel_rfl) ?_))
        (first | refine RR.ret ?_ | refine RR.normal ?_); simp [e3]
      rcases g5 : inR s.hard 1 9 <;> rw [g5] at c5
      · repeat (first | (with_reducible refine AWp.seqK fun _ => ?_) | (with_reducible refine AWp.blockK fun _ => ?_) | (with_reducible refine KK.go ?_) | (refine AWp.reg tabOk ?_; simp [-getElem?_pos, z0, z1, z2, hlt, hs]) | (refine AWp.condK fun _ _ => ?_; simp [-getElem?_pos, z0, z1, z2, hlt, hs]) | (refine AWp.ret ?_; try simp only [thenP]) | (refine AWp.skip ?_; try simp only [thenP]) | (refine AWp.exit ?_; try simp only [thenP]) | (with_reducible refine AWp.scopeK fun _ => ?_) | (refine AWp.label ?_; try simp only [thenP]) | (with_reducible refine SS.go (fun _ h => by cases h) ?_; try simp only [blockP, thenP]) | (with_reducible refine BB.go ?_; simp only [blockP, thenP, if_true, if_false, reduceIte]) | (refine AWp.draws tabOk (by kernel_rfl) (by kernel_rfl) ?_; simp [-getElem?_pos, z0, z1, z2, hlt, hs]) | (with_reducible refine And.intro (show okLog _ _ = true from by kernel_rfl) ?_))
        (first | refine Exec0.call [] c1 ?_ rfl ?_ ?_ | refine Exec.call [] c1 ?_ rfl ?_ ?_); (focus simp [-getElem?_pos, hs]); (focus simp [-getElem?_pos, z0, z1, z2, hs]); simp [-getElem?_pos, z0, z1, z2, hs]
        (first | refine Exec0.call [] c2 ?_ rfl ?_ ?_ | refine Exec.call [] c2 ?_ rfl ?_ ?_); (focus simp [-getElem?_pos, hs]); (focus simp [-getElem?_pos, z0, z1, z2, hs]); simp [-getElem?_pos, z0, z1, z2, hs]
        (first | refine Exec0.call [] c3 ?_ rfl ?_ ?_ | refine Exec.call [] c3 ?_ rfl ?_ ?_); (focus simp [-getElem?_pos, hs, g4]); (focus simp [-getElem?_pos, z0, z1, z2, hs, g4]); simp [-getElem?_pos, z0, z1, z2, hs, g4]
        (first | refine Exec0.call [] c5 ?_ rfl ?_ ?_ | refine Exec.call [] c5 ?_ rfl ?_ ?_); (focus simp [-getElem?_pos, hs]); (focus simp [-getElem?_pos, z0, z1, z2, hs]); simp [-getElem?_pos, z0, z1, z2, hs]
        repeat (first | (with_reducible refine AWp.seqK fun _ => ?_) | (with_reducible refine AWp.blockK fun _ => ?_) | (with_reducible refine KK.go ?_) | (refine AWp.reg tabOk ?_; simp [-getElem?_pos, z0, z1, z2, hs]) | (refine AWp.condK fun _ _ => ?_; simp [-getElem?_pos, z0, z1, z2, hs]) | (refine AWp.ret ?_; try simp only [thenP]) | (refine AWp.skip ?_; try simp only [thenP]) | (refine AWp.exit ?_; try simp only [thenP]) | (with_reducible refine AWp.scopeK fun _ => ?_) | (refine AWp.label ?_; try simp only [thenP]) | (with_reducible refine SS.go (fun _ h => by cases h) ?_; try simp only [blockP, thenP]) | (with_reducible refine BB.go ?_; simp only [blockP, thenP, if_true, if_false, reduceIte]) | (refine AWp.draws tabOk (by kernel_rfl) (by kernel_rfl) ?_; simp [-getElem?_pos, z0, z1, z2, hs]) | (with_reducible refine And.intro (show okLog _ _ = true from by kernel_rfl) ?_))
        (first | refine RR.ret ?_ | refine RR.normal ?_); simp [e3]
      · exfalso
        apply hok
        simp only [stnOk, g1, g2, g3, g5, Bool.and_true, Bool.true_and, decide_eq_true_eq]
        omega
  · obtain rfl : k = b.st.length := by omega
    rw [List.take_of_length_le (Nat.le_refl _)] at hall
    have c6 := inside_c b.most 0 200
    rcases g6 : inR b.most 0 200 <;> rw [g6] at c6
    · have e2 : e = 2 := by rw [he]; exact bladeErr_2 hn hall g6
      repeat (first | (with_reducible refine AWp.seqK fun _ => ?_) | (with_reducible refine AWp.blockK fun _ => ?_) | (with_reducible refine KK.go ?_) | (refine AWp.reg tabOk ?_; simp [-getElem?_pos, z0, z1, z2, hlt]) | (refine AWp.condK fun _ _ => ?_; simp [-getElem?_pos, z0, z1, z2, hlt]) | (refine AWp.ret ?_; try simp only [thenP]) | (refine AWp.skip ?_; try simp only [thenP]) | (refine AWp.exit ?_; try simp only [thenP]) | (with_reducible refine AWp.scopeK fun _ => ?_) | (refine AWp.label ?_; try simp only [thenP]) | (with_reducible refine SS.go (fun _ h => by cases h) ?_; try simp only [blockP, thenP]) | (with_reducible refine BB.go ?_; simp only [blockP, thenP, if_true, if_false, reduceIte]) | (refine AWp.draws tabOk (by kernel_rfl) (by kernel_rfl) ?_; simp [-getElem?_pos, z0, z1, z2, hlt]) | (with_reducible refine And.intro (show okLog _ _ = true from by kernel_rfl) ?_))
      (first | refine Exec0.call [] c6 ?_ rfl ?_ ?_ | refine Exec.call [] c6 ?_ rfl ?_ ?_); (focus simp [-getElem?_pos, ]); (focus simp [-getElem?_pos, z0, z1, z2, ]); simp [-getElem?_pos, z0, z1, z2, ]
      repeat (first | (with_reducible refine AWp.seqK fun _ => ?_) | (with_reducible refine AWp.blockK fun _ => ?_) | (with_reducible refine KK.go ?_) | (refine AWp.reg tabOk ?_; simp [-getElem?_pos, z0, z1, z2, ]) | (refine AWp.condK fun _ _ => ?_; simp [-getElem?_pos, z0, z1, z2, ]) | (refine AWp.ret ?_; try simp only [thenP]) | (refine AWp.skip ?_; try simp only [thenP]) | (refine AWp.exit ?_; try simp only [thenP]) | (with_reducible refine AWp.scopeK fun _ => ?_) | (refine AWp.label ?_; try simp only [thenP]) | (with_reducible refine SS.go (fun _ h => by cases h) ?_; try simp only [blockP, thenP]) | (with_reducible refine BB.go ?_; simp only [blockP, thenP, if_true, if_false, reduceIte]) | (refine AWp.draws tabOk (by kernel_rfl) (by kernel_rfl) ?_; simp [-getElem?_pos, z0, z1, z2, ]) | (with_reducible refine And.intro (show okLog _ _ = true from by kernel_rfl) ?_))
      (first | refine RR.ret ?_ | refine RR.normal ?_); simp [e2]
    · have e0 : e = 0 := by rw [he]; exact bladeErr_0 hn hall g6
      repeat (first | (with_reducible refine AWp.seqK fun _ => ?_) | (with_reducible refine AWp.blockK fun _ => ?_) | (with_reducible refine KK.go ?_) | (refine AWp.reg tabOk ?_; simp [-getElem?_pos, z0, z1, z2, hlt]) | (refine AWp.condK fun _ _ => ?_; simp [-getElem?_pos, z0, z1, z2, hlt]) | (refine AWp.ret ?_; try simp only [thenP]) | (refine AWp.skip ?_; try simp only [thenP]) | (refine AWp.exit ?_; try simp only [thenP]) | (with_reducible refine AWp.scopeK fun _ => ?_) | (refine AWp.label ?_; try simp only [thenP]) | (with_reducible refine SS.go (fun _ h => by cases h) ?_; try simp only [blockP, thenP]) | (with_reducible refine BB.go ?_; simp only [blockP, thenP, if_true, if_false, reduceIte]) | (refine AWp.draws tabOk (by kernel_rfl) (by kernel_rfl) ?_; simp [-getElem?_pos, z0, z1, z2, hlt]) | (with_reducible refine And.intro (show okLog _ _ = true from by kernel_rfl) ?_))
      (first | refine Exec0.call [] c6 ?_ rfl ?_ ?_ | refine Exec.call [] c6 ?_ rfl ?_ ?_); (focus simp [-getElem?_pos, ]); (focus simp [-getElem?_pos, z0, z1, z2, ]); simp [-getElem?_pos, z0, z1, z2, ]
      repeat (first | (with_reducible refine AWp.seqK fun _ => ?_) | (with_reducible refine AWp.blockK fun _ => ?_) | (with_reducible refine KK.go ?_) | (refine AWp.reg tabOk ?_; simp [-getElem?_pos, z0, z1, z2, ]) | (refine AWp.condK fun _ _ => ?_; simp [-getElem?_pos, z0, z1, z2, ]) | (refine AWp.ret ?_; try simp only [thenP]) | (refine AWp.skip ?_; try simp only [thenP]) | (refine AWp.exit ?_; try simp only [thenP]) | (with_reducible refine AWp.scopeK fun _ => ?_) | (refine AWp.label ?_; try simp only [thenP]) | (with_reducible refine SS.go (fun _ h => by cases h) ?_; try simp only [blockP, thenP]) | (with_reducible refine BB.go ?_; simp only [blockP, thenP, if_true, if_false, reduceIte]) | (refine AWp.draws tabOk (by kernel_rfl) (by kernel_rfl) ?_; simp [-getElem?_pos, z0, z1, z2, ]) | (with_reducible refine And.intro (show okLog _ _ = true from by kernel_rfl) ?_))
      (first | refine RR.ret ?_ | refine RR.normal ?_); simp [e0]
end Go.Proofs.Ytnhhlmikkmjenaa.Eng

/-
  Layer 2: tubes, and how a blade is turned after blows, in the reference.
-/
namespace Go.Proofs.Ytnhhlmikkmjenaa.Eng
open Go.RowKit

abbrev rgD (lo hi : Int) : Dat := .agg [iD lo, iD hi]
def tubeS (s : Stn) : Int × Int := (s.lo - s.angle, s.hi - s.angle)
def tubeN (b : Blade) (i : Int) : Int × Int := if i < 0 then (0, 0) else match b.st[i.toNat]? with
  | some s => tubeS s
  | none => (0, 0)
/-- What a valid blade is. -/
structure BladeOk (b : Blade) : Prop where
  n1 : 1 ≤ b.st.length
  n2 : b.st.length ≤ 20
  all : ∀ s ∈ b.st, stnOk s = true
  m0 : 0 ≤ b.most
  m1 : b.most ≤ 200
theorem bladeOk {b : Blade} (h : bladeErr b = 0) : BladeOk b := by
  unfold bladeErr at h
  split at h
  · cases h
  · split at h
    · cases h
    · split at h
      · cases h
      · rename_i h1 h2 h3
        have h4 : inR b.most 0 200 = true := by simpa using h3
        simp only [inR, decide_eq_true_eq] at h4
        exact ⟨by omega, by omega, List.all_eq_true.1 (by simpa using h2), h4.1, h4.2⟩
theorem stnOk_iff {s : Stn} : stnOk s = true ↔ (-100 ≤ s.angle ∧ s.angle ≤ 100) ∧ (-100 ≤ s.lo ∧ s.lo ≤ 100) ∧ (-100 ≤ s.hi ∧ s.hi ≤ 100) ∧ s.lo ≤ s.hi ∧ 1 ≤ s.hard ∧ s.hard ≤ 9 := by
  simp only [stnOk, inR, Bool.and_eq_true, decide_eq_true_eq]
  omega
theorem BladeOk.stn {b : Blade} (h : BladeOk b) {k : Nat} {s : Stn} (hs : b.st[k]? = some s) : (-100 ≤ s.angle ∧ s.angle ≤ 100) ∧ (-100 ≤ s.lo ∧ s.lo ≤ 100) ∧ (-100 ≤ s.hi ∧ s.hi ≤ 100) ∧ s.lo ≤ s.hi ∧ 1 ≤ s.hard ∧ s.hard ≤ 9 :=
  stnOk_iff.1 (h.all s (List.mem_of_getElem? hs))
theorem tubeN_neg (b : Blade) {i : Int} (h : i < 0) : tubeN b i = (0, 0) := if_pos h
theorem tubeN_at {b : Blade} {k : Nat} {s : Stn} (hs : b.st[k]? = some s) : tubeN b k = tubeS s := by
  unfold tubeN
  rw [if_neg (by omega), Int.toNat_natCast, hs]
theorem refTube_neg (b : Blade) : ACall Try.prog 40 [bladeD b, iD (-1)] (rgD 0 0) := by
  refine acallK tabOk Try.func40 rfl rfl (show 2 ≤ _ by decide) rfl fun _ => ?_; simp only [Try.ntmps40]
  repeat (first | (with_reducible refine AWp.seqK fun _ => ?_) | (with_reducible refine AWp.blockK fun _ => ?_) | (with_reducible refine KK.go ?_) | (refine AWp.reg tabOk ?_; simp [-getElem?_pos, z0, z1, z2, ]) | (refine AWp.condK fun _ _ => ?_; simp [-getElem?_pos, z0, z1, z2, ]) | (refine AWp.ret ?_; try simp only [thenP]) | (refine AWp.skip ?_; try simp only [thenP]) | (refine AWp.exit ?_; try simp only [thenP]) | (with_reducible refine AWp.scopeK fun _ => ?_) | (refine AWp.label ?_; try simp only [thenP]) | (with_reducible refine SS.go (fun _ h => by cases h) ?_; try simp only [blockP, thenP]) | (with_reducible refine BB.go ?_; simp only [blockP, thenP, if_true, if_false, reduceIte]) | (refine AWp.draws tabOk (by kernel_rfl) (by kernel_rfl) ?_; simp [-getElem?_pos, z0, z1, z2, ]) | (with_reducible refine And.intro (show okLog _ _ = true from by kernel_rfl) ?_))
  (first | refine RR.ret ?_ | refine RR.normal ?_); simp []
theorem refTube_at {b : Blade} (ok : BladeOk b) {k : Nat} {s : Stn} (hs : b.st[k]? = some s) : ACall Try.prog 40 [bladeD b, iD k] (rgD (s.lo - s.angle) (s.hi - s.angle)) := by
  have hb := ok.stn hs
  have w1 : IntKind.i64.wrap (s.lo - s.angle) = s.lo - s.angle := wrap64_in (by omega)
  have w2 : IntKind.i64.wrap (s.hi - s.angle) = s.hi - s.angle := wrap64_in (by omega)
  have hk : ¬ (k : Int) < 0 := by omega
  refine acallK tabOk Try.func40 rfl rfl (show 2 ≤ _ by decide) rfl fun _ => ?_; simp only [Try.ntmps40]
  repeat (first | (with_reducible refine AWp.seqK fun _ => ?_) | (with_reducible refine AWp.blockK fun _ => ?_) | (with_reducible refine KK.go ?_) | (refine AWp.reg tabOk ?_; simp [-getElem?_pos, z0, z1, z2, hs, hk, w1, w2]) | (refine AWp.condK fun _ _ => ?_; simp [-getElem?_pos, z0, z1, z2, hs, hk, w1, w2]) | (refine AWp.ret ?_; try simp only [thenP]) | (refine AWp.skip ?_; try simp only [thenP]) | (refine AWp.exit ?_; try simp only [thenP]) | (with_reducible refine AWp.scopeK fun _ => ?_) | (refine AWp.label ?_; try simp only [thenP]) | (with_reducible refine SS.go (fun _ h => by cases h) ?_; try simp only [blockP, thenP]) | (with_reducible refine BB.go ?_; simp only [blockP, thenP, if_true, if_false, reduceIte]) | (refine AWp.draws tabOk (by kernel_rfl) (by kernel_rfl) ?_; simp [-getElem?_pos, z0, z1, z2, hs, hk, w1, w2]) | (with_reducible refine And.intro (show okLog _ _ = true from by kernel_rfl) ?_))
  (first | refine RR.ret ?_ | refine RR.normal ?_); simp []
theorem refTube_c {b : Blade} (ok : BladeOk b) {i : Int} (h1 : -1 ≤ i) (h2 : i < b.st.length) : ACall Try.prog 40 [bladeD b, iD i] (rgD (tubeN b i).1 (tubeN b i).2) := by
  by_cases h : i < 0
  · obtain rfl : i = -1 := by omega
    exact refTube_neg b
  · obtain ⟨k, rfl⟩ := Int.eq_ofNat_of_zero_le (show 0 ≤ i by omega)
    obtain ⟨s, hs⟩ : ∃ s, b.st[k]? = some s := ⟨_, List.getElem?_eq_getElem (by omega)⟩
    have := refTube_at ok hs
    rw [tubeN_at hs]
    exact this

/-! ### Blows -/
def sumTo (l : List Int) : Nat → Int
  | 0 => 0
  | k + 1 => sumTo l k + l.getD k 0
theorem sumTo_succ {l : List Int} {k : Nat} {x : Int} (h : l[k]? = some x) : sumTo l (k + 1) = sumTo l k + x := by simp [sumTo, List.getD_eq_getElem?_getD, h]
theorem sumTo_bound {l : List Int} {m : Int} (h0 : 0 ≤ m) (h : ∀ x ∈ l, -m ≤ x ∧ x ≤ m) : ∀ k : Nat, -(m * k) ≤ sumTo l k ∧ sumTo l k ≤ m * k
  | 0 => by simp [sumTo]
  | k + 1 => by
    have ih := sumTo_bound h0 h k
    have hx : -m ≤ l.getD k 0 ∧ l.getD k 0 ≤ m := by
      rw [List.getD_eq_getElem?_getD]
      cases hk : l[k]? with
      | none => simp; omega
      | some x => exact h x (List.mem_of_getElem? hk)
    have e : m * ((k + 1 : Nat) : Int) = m * k + m := by rw [Int.natCast_add, Int.mul_add]; simp
    rw [e]
    simp only [sumTo]
    omega
def turnTo (b : Blade) (l : List Int) : Nat → List Int
  | 0 => []
  | k + 1 => turnTo b l k ++ [(match b.st[k]? with | some s => s.angle | none => 0) + sumTo l (k + 1)]
theorem turnTo_succ {b : Blade} {l : List Int} {k : Nat} {s : Stn} (h : b.st[k]? = some s) : turnTo b l (k + 1) = turnTo b l k ++ [s.angle + sumTo l (k + 1)] := by simp [turnTo, h]
theorem turnTo_len (b : Blade) (l : List Int) : ∀ k, (turnTo b l k).length = k
  | 0 => rfl
  | k + 1 => by simp [turnTo, turnTo_len b l k]
def blowsErr (b : Blade) (m : Int) (l : List Int) : Int := if bladeErr b ≠ 0 then bladeErr b else if l.length ≠ b.st.length then 15 else if l.all (fun x => inR x (-m) m) = false then 3 else 0
def afterL (b : Blade) (l : List Int) : List Int := if blowsErr b b.most l = 0 then turnTo b l l.length else []
theorem blowsErr_1 {b : Blade} {m : Int} {l : List Int} (h : bladeErr b ≠ 0) : blowsErr b m l = bladeErr b := if_pos h
theorem blowsErr_15 {b : Blade} {m : Int} {l : List Int} (h : bladeErr b = 0) (h2 : l.length ≠ b.st.length) : blowsErr b m l = 15 := by rw [blowsErr, if_neg (by simpa using h), if_pos h2]
theorem blowsErr_3 {b : Blade} {m : Int} {l : List Int} (h : bladeErr b = 0) (h2 : l.length = b.st.length) (h3 : l.all (fun x => inR x (-m) m) = false) : blowsErr b m l = 3 := by rw [blowsErr, if_neg (by simpa using h), if_neg (by simpa using h2), if_pos h3]
theorem blowsErr_0 {b : Blade} {m : Int} {l : List Int} (h : bladeErr b = 0) (h2 : l.length = b.st.length) (h3 : l.all (fun x => inR x (-m) m) = true) : blowsErr b m l = 0 := by rw [blowsErr, if_neg (by simpa using h), if_neg (by simpa using h2), if_neg (by simp [h3])]
set_option maxRecDepth 100000 in
set_option maxHeartbeats 4000000 in
theorem refAfter_c (b : Blade) (l : List Int) : ACall Try.prog 17 [bladeD b, intL l] (.tup [intL (afterL b l), iD (blowsErr b b.most l)]) := by
  have cb := refCheckBlade_c b
  by_cases h0 : bladeErr b = 0
  · rw [h0] at cb
    have ok := bladeOk h0
    by_cases h1 : l.length = b.st.length
    · have h1' : (l.length : Int) = (b.st.length : Int) := by omega
      have wm : IntKind.i64.wrap (-b.most) = -b.most := wrap64_in (by have := ok.m0; have := ok.m1; omega)
      obtain ⟨r, hr⟩ : ∃ r, r = (Dat.tup [intL (afterL b l), iD (blowsErr b b.most l)]) := ⟨_, rfl⟩
      rw [← hr]
      have hn2 := ok.n2
      refine acallK tabOk Try.func17 rfl rfl (show 2 ≤ _ by decide) rfl fun _ => ?_; simp only [Try.ntmps17]
      repeat (first | (with_reducible refine AWp.seqK fun _ => ?_) | (with_reducible refine AWp.blockK fun _ => ?_) | (with_reducible refine KK.go ?_) | (refine AWp.reg tabOk ?_; simp [-getElem?_pos, z0, z1, z2, ]) | (refine AWp.condK fun _ _ => ?_; simp [-getElem?_pos, z0, z1, z2, ]) | (refine AWp.ret ?_; try simp only [thenP]) | (refine AWp.skip ?_; try simp only [thenP]) | (refine AWp.exit ?_; try simp only [thenP]) | (with_reducible refine AWp.scopeK fun _ => ?_) | (refine AWp.label ?_; try simp only [thenP]) | (with_reducible refine SS.go (fun _ h => by cases h) ?_; try simp only [blockP, thenP]) | (with_reducible refine BB.go ?_; simp only [blockP, thenP, if_true, if_false, reduceIte]) | (refine AWp.draws tabOk (by kernel_rfl) (by kernel_rfl) ?_; simp [-getElem?_pos, z0, z1, z2, ]) | (with_reducible refine And.intro (show okLog _ _ = true from by kernel_rfl) ?_))
      (first | refine Exec0.call [] cb ?_ rfl ?_ ?_ | refine Exec.call [] cb ?_ rfl ?_ ?_); (focus simp [-getElem?_pos, ]); (focus simp [-getElem?_pos, z0, z1, z2, ]); simp [-getElem?_pos, z0, z1, z2, ]
      repeat (first | (with_reducible refine AWp.seqK fun _ => ?_) | (with_reducible refine AWp.blockK fun _ => ?_) | (with_reducible refine KK.go ?_) | (refine AWp.reg tabOk ?_; simp [-getElem?_pos, z0, z1, z2, h1']) | (refine AWp.condK fun _ _ => ?_; simp [-getElem?_pos, z0, z1, z2, h1']) | (refine AWp.ret ?_; try simp only [thenP]) | (refine AWp.skip ?_; try simp only [thenP]) | (refine AWp.exit ?_; try simp only [thenP]) | (with_reducible refine AWp.scopeK fun _ => ?_) | (refine AWp.label ?_; try simp only [thenP]) | (with_reducible refine SS.go (fun _ h => by cases h) ?_; try simp only [blockP, thenP]) | (with_reducible refine BB.go ?_; simp only [blockP, thenP, if_true, if_false, reduceIte]) | (refine AWp.draws tabOk (by kernel_rfl) (by kernel_rfl) ?_; simp [-getElem?_pos, z0, z1, z2, h1']) | (with_reducible refine And.intro (show okLog _ _ = true from by kernel_rfl) ?_))
      refine AWp.loopK (ι := { k : Nat // k ≤ l.length ∧ (l.take k).all (fun x => inR x (-b.most) b.most) = true }) (n := 1) (fun k => [(1, .d (intL l)), (2, .ptr 0 0 0), (6, .d (iD k.1))]) (fun _ => [(0, .box 24 [.d (.list (stnRows b.st)), .d (iD b.most)] false)]) (fun k => l.length - k.1) ⟨0, Nat.zero_le _, by simp⟩ [0] ?_ ?_
      · refine ⟨by rfl, by simp [], by simp [or_imp, forall_and, ] <;> (try (intro _hne; simp [_hne])), by decide⟩
      rintro ⟨k, hk, hall⟩ kk
      have w1 : IntKind.i64.wrap ((k : Int) + 1) = (k : Int) + 1 := wrap64_in (by omega)
      by_cases hlt : k < l.length
      · obtain ⟨x, hx⟩ : ∃ x, l[k]? = some x := ⟨_, List.getElem?_eq_getElem hlt⟩
        have ci := inside_c x (-b.most) b.most
        rcases g : inR x (-b.most) b.most <;> rw [g] at ci
        · have er := blowsErr_3 h0 h1 (all_not hx (p := fun x => inR x (-b.most) b.most) g)
          have hr' : r = .tup [.list [], iD 3] := by rw [hr, afterL, er, if_neg (by decide)]; rfl
          repeat (first | (with_reducible refine AWp.seqK fun _ => ?_) | (with_reducible refine AWp.blockK fun _ => ?_) | (with_reducible refine KK.go ?_) | (refine AWp.reg tabOk ?_; simp [-getElem?_pos, z0, z1, z2, hlt, hx, wm]) | (refine AWp.condK fun _ _ => ?_; simp [-getElem?_pos, z0, z1, z2, hlt, hx, wm]) | (refine AWp.ret ?_; try simp only [thenP]) | (refine AWp.skip ?_; try simp only [thenP]) | (refine AWp.exit ?_; try simp only [thenP]) | (with_reducible refine AWp.scopeK fun _ => ?_) | (refine AWp.label ?_; try simp only [thenP]) | (with_reducible refine SS.go (fun _ h => by cases h) ?_; try simp only [blockP, thenP]) | (with_reducible refine BB.go ?_; simp only [blockP, thenP, if_true, if_false, reduceIte]) | (refine AWp.draws tabOk (by kernel_rfl) (by kernel_rfl) ?_; simp [-getElem?_pos, z0, z1, z2, hlt, hx, wm]) | (with_reducible refine And.intro (show okLog _ _ = true from by kernel_rfl) ?_))
          (first | refine Exec0.call [] ci ?_ rfl ?_ ?_ | refine Exec.call [] ci ?_ rfl ?_ ?_); (focus simp [-getElem?_pos, ]); (focus simp [-getElem?_pos, z0, z1, z2, ]); simp [-getElem?_pos, z0, z1, z2, ]
          repeat (first | (with_reducible refine AWp.seqK fun _ => ?_) | (with_reducible refine AWp.blockK fun _ => ?_) | (with_reducible refine KK.go ?_) | (refine AWp.reg tabOk ?_; simp [-getElem?_pos, z0, z1, z2, ]) | (refine AWp.condK fun _ _ => ?_; simp [-getElem?_pos, z0, z1, z2, ]) | (refine AWp.ret ?_; try simp only [thenP]) | (refine AWp.skip ?_; try simp only [thenP]) | (refine AWp.exit ?_; try simp only [thenP]) | (with_reducible refine AWp.scopeK fun _ => ?_) | (refine AWp.label ?_; try simp only [thenP]) | (with_reducible refine SS.go (fun _ h => by cases h) ?_; try simp only [blockP, thenP]) | (with_reducible refine BB.go ?_; simp only [blockP, thenP, if_true, if_false, reduceIte]) | (refine AWp.draws tabOk (by kernel_rfl) (by kernel_rfl) ?_; simp [-getElem?_pos, z0, z1, z2, ]) | (with_reducible refine And.intro (show okLog _ _ = true from by kernel_rfl) ?_))
          (first | refine RR.ret ?_ | refine RR.normal ?_); simp [hr']
        · have hall2 : (l.take (k + 1)).all (fun x => inR x (-b.most) b.most) = true := by rw [all_take hx, hall, g]; rfl
          repeat (first | (with_reducible refine AWp.seqK fun _ => ?_) | (with_reducible refine AWp.blockK fun _ => ?_) | (with_reducible refine KK.go ?_) | (refine AWp.reg tabOk ?_; simp [-getElem?_pos, z0, z1, z2, hlt, hx, wm]) | (refine AWp.condK fun _ _ => ?_; simp [-getElem?_pos, z0, z1, z2, hlt, hx, wm]) | (refine AWp.ret ?_; try simp only [thenP]) | (refine AWp.skip ?_; try simp only [thenP]) | (refine AWp.exit ?_; try simp only [thenP]) | (with_reducible refine AWp.scopeK fun _ => ?_) | (refine AWp.label ?_; try simp only [thenP]) | (with_reducible refine SS.go (fun _ h => by cases h) ?_; try simp only [blockP, thenP]) | (with_reducible refine BB.go ?_; simp only [blockP, thenP, if_true, if_false, reduceIte]) | (refine AWp.draws tabOk (by kernel_rfl) (by kernel_rfl) ?_; simp [-getElem?_pos, z0, z1, z2, hlt, hx, wm]) | (with_reducible refine And.intro (show okLog _ _ = true from by kernel_rfl) ?_))
          (first | refine Exec0.call [] ci ?_ rfl ?_ ?_ | refine Exec.call [] ci ?_ rfl ?_ ?_); (focus simp [-getElem?_pos, ]); (focus simp [-getElem?_pos, z0, z1, z2, ]); simp [-getElem?_pos, z0, z1, z2, ]
          repeat (first | (with_reducible refine AWp.seqK fun _ => ?_) | (with_reducible refine AWp.blockK fun _ => ?_) | (with_reducible refine KK.go ?_) | (refine AWp.reg tabOk ?_; simp [-getElem?_pos, z0, z1, z2, w1]) | (refine AWp.condK fun _ _ => ?_; simp [-getElem?_pos, z0, z1, z2, w1]) | (refine AWp.ret ?_; try simp only [thenP]) | (refine AWp.skip ?_; try simp only [thenP]) | (refine AWp.exit ?_; try simp only [thenP]) | (with_reducible refine AWp.scopeK fun _ => ?_) | (refine AWp.label ?_; try simp only [thenP]) | (with_reducible refine SS.go (fun _ h => by cases h) ?_; try simp only [blockP, thenP]) | (with_reducible refine BB.go ?_; simp only [blockP, thenP, if_true, if_false, reduceIte]) | (refine AWp.draws tabOk (by kernel_rfl) (by kernel_rfl) ?_; simp [-getElem?_pos, z0, z1, z2, w1]) | (with_reducible refine And.intro (show okLog _ _ = true from by kernel_rfl) ?_))
          refine LL.go ⟨k + 1, hlt, hall2⟩ [0] ⟨by rfl, by simp [], by simp [or_imp, forall_and, ] <;> (try (intro _hne; simp [_hne])), by decide⟩ ?_
          simp; omega
      · obtain rfl : k = l.length := by omega
        rw [List.take_of_length_le (Nat.le_refl _)] at hall
        have er := blowsErr_0 h0 h1 hall
        have hr' : r = .tup [intL (turnTo b l l.length), iD 0] := by rw [hr, afterL, er, if_pos rfl]
        have hin : ∀ x ∈ l, -b.most ≤ x ∧ x ≤ b.most := fun x hx => by have := List.all_eq_true.1 hall x hx; simpa [inR] using this
        have hbd : ∀ k, k ≤ l.length → -4000 ≤ sumTo l k ∧ sumTo l k ≤ 4000 := fun k hk => by
          have := sumTo_bound ok.m0 hin k
          have h4 : b.most * (k : Int) ≤ 200 * 20 := Int.mul_le_mul ok.m1 (by omega) (by omega) (by omega)
          omega
        repeat (first | (with_reducible refine AWp.seqK fun _ => ?_) | (with_reducible refine AWp.blockK fun _ => ?_) | (with_reducible refine KK.go ?_) | (refine AWp.reg tabOk ?_; simp [-getElem?_pos, z0, z1, z2, hlt]) | (refine AWp.condK fun _ _ => ?_; simp [-getElem?_pos, z0, z1, z2, hlt]) | (refine AWp.ret ?_; try simp only [thenP]) | (refine AWp.skip ?_; try simp only [thenP]) | (refine AWp.exit ?_; try simp only [thenP]) | (with_reducible refine AWp.scopeK fun _ => ?_) | (refine AWp.label ?_; try simp only [thenP]) | (with_reducible refine SS.go (fun _ h => by cases h) ?_; try simp only [blockP, thenP]) | (with_reducible refine BB.go ?_; simp only [blockP, thenP, if_true, if_false, reduceIte]) | (refine AWp.draws tabOk (by kernel_rfl) (by kernel_rfl) ?_; simp [-getElem?_pos, z0, z1, z2, hlt]) | (with_reducible refine And.intro (show okLog _ _ = true from by kernel_rfl) ?_))
        refine AWp.loopK (ι := { k : Nat // k ≤ l.length }) (n := 2) (fun k => [(1, .d (intL l)), (2, .ptr 0 0 0), (7, gS 1 1 (iRows (turnTo b l k.1))), (8, .d (iD k.1))]) (fun k => (0, .box 24 [.d (.list (stnRows b.st)), .d (iD b.most)] false) :: gM 1 2 1 (iRows (turnTo b l k.1))) (fun k => l.length - k.1) ⟨0, Nat.zero_le _⟩ [0, 1] ?_ ?_
        · refine ⟨by rfl, by simp [turnTo], by simp [or_imp, forall_and, turnTo] <;> (try (intro _hne; simp [_hne])), by decide⟩
        rintro ⟨k, hk⟩ kk
        have w1 : IntKind.i64.wrap ((k : Int) + 1) = (k : Int) + 1 := wrap64_in (by omega)
        by_cases hlt : k < l.length
        · obtain ⟨s, hs⟩ : ∃ s, b.st[k]? = some s := ⟨_, List.getElem?_eq_getElem (by omega)⟩
          have hsb := ok.stn hs
          have hts := turnTo_succ (l := l) hs
          have hlen := turnTo_len b l k
          repeat (first | (with_reducible refine AWp.seqK fun _ => ?_) | (with_reducible refine AWp.blockK fun _ => ?_) | (with_reducible refine KK.go ?_) | (refine AWp.reg tabOk ?_; simp [-getElem?_pos, z0, z1, z2, hlt, hs]) | (refine AWp.condK fun _ _ => ?_; simp [-getElem?_pos, z0, z1, z2, hlt, hs]) | (refine AWp.ret ?_; try simp only [thenP]) | (refine AWp.skip ?_; try simp only [thenP]) | (refine AWp.exit ?_; try simp only [thenP]) | (with_reducible refine AWp.scopeK fun _ => ?_) | (refine AWp.label ?_; try simp only [thenP]) | (with_reducible refine SS.go (fun _ h => by cases h) ?_; try simp only [blockP, thenP]) | (with_reducible refine BB.go ?_; simp only [blockP, thenP, if_true, if_false, reduceIte]) | (refine AWp.draws tabOk (by kernel_rfl) (by kernel_rfl) ?_; simp [-getElem?_pos, z0, z1, z2, hlt, hs]) | (with_reducible refine And.intro (show okLog _ _ = true from by kernel_rfl) ?_))
          obtain ⟨rows, hrows⟩ : ∃ rows, rows = iRows (turnTo b l k) := ⟨_, rfl⟩
          have hir : rows.length = k := by simp [hrows, hlen]
          rw [← hrows]
          refine AWp.loopK (ι := { j : Nat // j ≤ k + 1 }) (n := 2) (fun j => [(1, .d (intL l)), (2, .ptr 0 0 0), (7, gS 1 1 rows), (8, .d (iD k)), (9, .d (iD (s.angle + sumTo l j.1))), (10, .d (iD j.1))]) (fun j => (0, .box 24 [.d (.list (stnRows b.st)), .d (iD b.most)] false) :: gM 1 2 1 rows) (fun j => k + 1 - j.1) ⟨0, Nat.zero_le _⟩ [0, 1] ?_ ?_
          · refine ⟨by rfl, by simp [sumTo], by simp [or_imp, forall_and, sumTo] <;> (try (intro _hne; simp [_hne])), by decide⟩
          rintro ⟨j, hj⟩ kk2
          have w2 : IntKind.i64.wrap ((j : Int) + 1) = (j : Int) + 1 := wrap64_in (by omega)
          by_cases hlt2 : j ≤ k
          · obtain ⟨x, hx⟩ : ∃ x, l[j]? = some x := ⟨_, List.getElem?_eq_getElem (by omega)⟩
            have hss := sumTo_succ hx
            have hb1 := hbd (j + 1) (by omega)
            have w3 : IntKind.i64.wrap (s.angle + sumTo l j + x) = s.angle + sumTo l (j + 1) := by rw [wrap64_in (by omega)]; omega
            repeat (first | (with_reducible refine AWp.seqK fun _ => ?_) | (with_reducible refine AWp.blockK fun _ => ?_) | (with_reducible refine KK.go ?_) | (refine AWp.reg tabOk ?_; simp [-getElem?_pos, z0, z1, z2, hlt2, hx, w2, w3]) | (refine AWp.condK fun _ _ => ?_; simp [-getElem?_pos, z0, z1, z2, hlt2, hx, w2, w3]) | (refine AWp.ret ?_; try simp only [thenP]) | (refine AWp.skip ?_; try simp only [thenP]) | (refine AWp.exit ?_; try simp only [thenP]) | (with_reducible refine AWp.scopeK fun _ => ?_) | (refine AWp.label ?_; try simp only [thenP]) | (with_reducible refine SS.go (fun _ h => by cases h) ?_; try simp only [blockP, thenP]) | (with_reducible refine BB.go ?_; simp only [blockP, thenP, if_true, if_false, reduceIte]) | (refine AWp.draws tabOk (by kernel_rfl) (by kernel_rfl) ?_; simp [-getElem?_pos, z0, z1, z2, hlt2, hx, w2, w3]) | (with_reducible refine And.intro (show okLog _ _ = true from by kernel_rfl) ?_))
            refine LL.go ⟨j + 1, by omega⟩ [0, 1] ⟨by rfl, by simp [], by simp [or_imp, forall_and, ] <;> (try (intro _hne; simp [_hne])), by decide⟩ ?_
            simp; omega
          · obtain rfl : j = k + 1 := by omega
            have hno : ¬ (k : Int) + 1 ≤ k := by omega
            generalize hv : s.angle + sumTo l (k + 1) = v at *
            cases rows with
            | nil =>
              have h : iRows (turnTo b l k) = [] := hrows.symm
              repeat (first | (with_reducible refine AWp.seqK fun _ => ?_) | (with_reducible refine AWp.blockK fun _ => ?_) | (with_reducible refine KK.go ?_) | (refine AWp.reg tabOk ?_; simp [-getElem?_pos, z0, z1, z2, hno, w1]) | (refine AWp.condK fun _ _ => ?_; simp [-getElem?_pos, z0, z1, z2, hno, w1]) | (refine AWp.ret ?_; try simp only [thenP]) | (refine AWp.skip ?_; try simp only [thenP]) | (refine AWp.exit ?_; try simp only [thenP]) | (with_reducible refine AWp.scopeK fun _ => ?_) | (refine AWp.label ?_; try simp only [thenP]) | (with_reducible refine SS.go (fun _ h => by cases h) ?_; try simp only [blockP, thenP]) | (with_reducible refine BB.go ?_; simp only [blockP, thenP, if_true, if_false, reduceIte]) | (refine AWp.draws tabOk (by kernel_rfl) (by kernel_rfl) ?_; simp [-getElem?_pos, z0, z1, z2, hno, w1]) | (with_reducible refine And.intro (show okLog _ _ = true from by kernel_rfl) ?_))
              refine LL.go ⟨k + 1, hlt⟩ [0, 8] ⟨by rfl, by simp [hts, h], by simp [or_imp, forall_and, hts, h] <;> (try (intro _hne; simp [_hne])), by decide⟩ ?_
              simp; omega
            | cons r0 o =>
              have h : iRows (turnTo b l k) = r0 :: o := hrows.symm
              simp at hir
              have b1 : fitsB (o.length + 1 + 1) 8 = true := fitsB_small (by omega) (by omega)
              repeat (first | (with_reducible refine AWp.seqK fun _ => ?_) | (with_reducible refine AWp.blockK fun _ => ?_) | (with_reducible refine KK.go ?_) | (refine AWp.reg tabOk ?_; simp [-getElem?_pos, z0, z1, z2, hno, w1, b1]) | (refine AWp.condK fun _ _ => ?_; simp [-getElem?_pos, z0, z1, z2, hno, w1, b1]) | (refine AWp.ret ?_; try simp only [thenP]) | (refine AWp.skip ?_; try simp only [thenP]) | (refine AWp.exit ?_; try simp only [thenP]) | (with_reducible refine AWp.scopeK fun _ => ?_) | (refine AWp.label ?_; try simp only [thenP]) | (with_reducible refine SS.go (fun _ h => by cases h) ?_; try simp only [blockP, thenP]) | (with_reducible refine BB.go ?_; simp only [blockP, thenP, if_true, if_false, reduceIte]) | (refine AWp.draws tabOk (by kernel_rfl) (by kernel_rfl) ?_; simp [-getElem?_pos, z0, z1, z2, hno, w1, b1]) | (with_reducible refine And.intro (show okLog _ _ = true from by kernel_rfl) ?_))
              refine LL.go ⟨k + 1, hlt⟩ [0, 8] ⟨by rfl, by simp [hts, h], by simp [or_imp, forall_and, hts, h] <;> (try (intro _hne; simp [_hne])), by decide⟩ ?_
              simp; omega
        · obtain rfl : k = l.length := by omega
          obtain ⟨rows, hrows⟩ : ∃ rows, rows = iRows (turnTo b l l.length) := ⟨_, rfl⟩
          have hir : rows.length = l.length := by simp [hrows, turnTo_len]
          rw [intL, ← hrows] at hr'
          rw [← hrows]
          cases rows with
          | nil => simp at hir; have := ok.n1; omega
          | cons r0 o =>
            simp at hir
            repeat (first | (with_reducible refine AWp.seqK fun _ => ?_) | (with_reducible refine AWp.blockK fun _ => ?_) | (with_reducible refine KK.go ?_) | (refine AWp.reg tabOk ?_; simp [-getElem?_pos, z0, z1, z2, hlt]) | (refine AWp.condK fun _ _ => ?_; simp [-getElem?_pos, z0, z1, z2, hlt]) | (refine AWp.ret ?_; try simp only [thenP]) | (refine AWp.skip ?_; try simp only [thenP]) | (refine AWp.exit ?_; try simp only [thenP]) | (with_reducible refine AWp.scopeK fun _ => ?_) | (refine AWp.label ?_; try simp only [thenP]) | (with_reducible refine SS.go (fun _ h => by cases h) ?_; try simp only [blockP, thenP]) | (with_reducible refine BB.go ?_; simp only [blockP, thenP, if_true, if_false, reduceIte]) | (refine AWp.draws tabOk (by kernel_rfl) (by kernel_rfl) ?_; simp [-getElem?_pos, z0, z1, z2, hlt]) | (with_reducible refine And.intro (show okLog _ _ = true from by kernel_rfl) ?_))
            (first | refine RR.ret ?_ | refine RR.normal ?_); simp [hr', hir]
    · have er := blowsErr_15 (m := b.most) h0 h1
      have hr' : afterL b l = [] := by rw [afterL, er, if_neg (by decide)]
      have h1' : ¬ (l.length : Int) = (b.st.length : Int) := by omega
      rw [er, hr']
      refine acallK tabOk Try.func17 rfl rfl (show 2 ≤ _ by decide) rfl fun _ => ?_; simp only [Try.ntmps17]
      repeat (first | (with_reducible refine AWp.seqK fun _ => ?_) | (with_reducible refine AWp.blockK fun _ => ?_) | (with_reducible refine KK.go ?_) | (refine AWp.reg tabOk ?_; simp [-getElem?_pos, z0, z1, z2, ]) | (refine AWp.condK fun _ _ => ?_; simp [-getElem?_pos, z0, z1, z2, ]) | (refine AWp.ret ?_; try simp only [thenP]) | (refine AWp.skip ?_; try simp only [thenP]) | (refine AWp.exit ?_; try simp only [thenP]) | (with_reducible refine AWp.scopeK fun _ => ?_) | (refine AWp.label ?_; try simp only [thenP]) | (with_reducible refine SS.go (fun _ h => by cases h) ?_; try simp only [blockP, thenP]) | (with_reducible refine BB.go ?_; simp only [blockP, thenP, if_true, if_false, reduceIte]) | (refine AWp.draws tabOk (by kernel_rfl) (by kernel_rfl) ?_; simp [-getElem?_pos, z0, z1, z2, ]) | (with_reducible refine And.intro (show okLog _ _ = true from by kernel_rfl) ?_))
      (first | refine Exec0.call [] cb ?_ rfl ?_ ?_ | refine Exec.call [] cb ?_ rfl ?_ ?_); (focus simp [-getElem?_pos, ]); (focus simp [-getElem?_pos, z0, z1, z2, ]); simp [-getElem?_pos, z0, z1, z2, ]
      repeat (first | (with_reducible refine AWp.seqK fun _ => ?_) | (with_reducible refine AWp.blockK fun _ => ?_) | (with_reducible refine KK.go ?_) | (refine AWp.reg tabOk ?_; simp [-getElem?_pos, z0, z1, z2, h1, h1']) | (refine AWp.condK fun _ _ => ?_; simp [-getElem?_pos, z0, z1, z2, h1, h1']) | (refine AWp.ret ?_; try simp only [thenP]) | (refine AWp.skip ?_; try simp only [thenP]) | (refine AWp.exit ?_; try simp only [thenP]) | (with_reducible refine AWp.scopeK fun _ => ?_) | (refine AWp.label ?_; try simp only [thenP]) | (with_reducible refine SS.go (fun _ h => by cases h) ?_; try simp only [blockP, thenP]) | (with_reducible refine BB.go ?_; simp only [blockP, thenP, if_true, if_false, reduceIte]) | (refine AWp.draws tabOk (by kernel_rfl) (by kernel_rfl) ?_; simp [-getElem?_pos, z0, z1, z2, h1, h1']) | (with_reducible refine And.intro (show okLog _ _ = true from by kernel_rfl) ?_))
      (first | refine RR.ret ?_ | refine RR.normal ?_); simp []
  · have er := blowsErr_1 (m := b.most) (l := l) h0
    have hr' : afterL b l = [] := by rw [afterL, er, if_neg h0]
    rw [er, hr']
    generalize bladeErr b = e at *
    refine acallK tabOk Try.func17 rfl rfl (show 2 ≤ _ by decide) rfl fun _ => ?_; simp only [Try.ntmps17]
    repeat (first | (with_reducible refine AWp.seqK fun _ => ?_) | (with_reducible refine AWp.blockK fun _ => ?_) | (with_reducible refine KK.go ?_) | (refine AWp.reg tabOk ?_; simp [-getElem?_pos, z0, z1, z2, ]) | (refine AWp.condK fun _ _ => ?_; simp [-getElem?_pos, z0, z1, z2, ]) | (refine AWp.ret ?_; try simp only [thenP]) | (refine AWp.skip ?_; try simp only [thenP]) | (refine AWp.exit ?_; try simp only [thenP]) | (with_reducible refine AWp.scopeK fun _ => ?_) | (refine AWp.label ?_; try simp only [thenP]) | (with_reducible refine SS.go (fun _ h => by cases h) ?_; try simp only [blockP, thenP]) | (with_reducible refine BB.go ?_; simp only [blockP, thenP, if_true, if_false, reduceIte]) | (refine AWp.draws tabOk (by kernel_rfl) (by kernel_rfl) ?_; simp [-getElem?_pos, z0, z1, z2, ]) | (with_reducible refine And.intro (show okLog _ _ = true from by kernel_rfl) ?_))
    (first | refine Exec0.call [] cb ?_ rfl ?_ ?_ | refine Exec.call [] cb ?_ rfl ?_ ?_); (focus simp [-getElem?_pos, ]); (focus simp [-getElem?_pos, z0, z1, z2, ]); simp [-getElem?_pos, z0, z1, z2, ]
    repeat (first | (with_reducible refine AWp.seqK fun _ => ?_) | (with_reducible refine AWp.blockK fun _ => ?_) | (with_reducible refine KK.go ?_) | (refine AWp.reg tabOk ?_; simp [-getElem?_pos, z0, z1, z2, h0]) | (refine AWp.condK fun _ _ => ?_; simp [-getElem?_pos, z0, z1, z2, h0]) | (refine AWp.ret ?_; try simp only [thenP]) | (refine AWp.skip ?_; try simp only [thenP]) | (refine AWp.exit ?_; try simp only [thenP]) | (with_reducible refine AWp.scopeK fun _ => ?_) | (refine AWp.label ?_; try simp only [thenP]) | (with_reducible refine SS.go (fun _ h => by cases h) ?_; try simp only [blockP, thenP]) | (with_reducible refine BB.go ?_; simp only [blockP, thenP, if_true, if_false, reduceIte]) | (refine AWp.draws tabOk (by kernel_rfl) (by kernel_rfl) ?_; simp [-getElem?_pos, z0, z1, z2, h0]) | (with_reducible refine And.intro (show okLog _ _ = true from by kernel_rfl) ?_))
    (first | refine Exec0.call [] cb ?_ rfl ?_ ?_ | refine Exec.call [] cb ?_ rfl ?_ ?_); (focus simp [-getElem?_pos, ]); (focus simp [-getElem?_pos, z0, z1, z2, ]); simp [-getElem?_pos, z0, z1, z2, ]
    repeat (first | (with_reducible refine AWp.seqK fun _ => ?_) | (with_reducible refine AWp.blockK fun _ => ?_) | (with_reducible refine KK.go ?_) | (refine AWp.reg tabOk ?_; simp [-getElem?_pos, z0, z1, z2, ]) | (refine AWp.condK fun _ _ => ?_; simp [-getElem?_pos, z0, z1, z2, ]) | (refine AWp.ret ?_; try simp only [thenP]) | (refine AWp.skip ?_; try simp only [thenP]) | (refine AWp.exit ?_; try simp only [thenP]) | (with_reducible refine AWp.scopeK fun _ => ?_) | (refine AWp.label ?_; try simp only [thenP]) | (with_reducible refine SS.go (fun _ h => by cases h) ?_; try simp only [blockP, thenP]) | (with_reducible refine BB.go ?_; simp only [blockP, thenP, if_true, if_false, reduceIte]) | (refine AWp.draws tabOk (by kernel_rfl) (by kernel_rfl) ?_; simp [-getElem?_pos, z0, z1, z2, ]) | (with_reducible refine And.intro (show okLog _ _ = true from by kernel_rfl) ?_))
    (first | refine RR.ret ?_ | refine RR.normal ?_); simp []
end Go.Proofs.Ytnhhlmikkmjenaa.Eng

/-
  Layer 2: what blows cost, in the reference.
-/
namespace Go.Proofs.Ytnhhlmikkmjenaa.Eng
open Go.RowKit

theorem turnTo_get {b : Blade} {l : List Int} {i : Nat} {s : Stn} (hs : b.st[i]? = some s) : ∀ n, i < n → (turnTo b l n)[i]? = some (s.angle + sumTo l (i + 1))
  | n + 1, h => by
    rcases Nat.lt_or_ge i n with g | g
    · rw [turnTo, List.getElem?_append_left (by rw [turnTo_len]; exact g)]
      exact turnTo_get hs n g
    · obtain rfl : i = n := by omega
      rw [turnTo_succ hs, List.getElem?_append_right (by rw [turnTo_len]; omega), turnTo_len, Nat.sub_self]
      rfl
def straightAt (b : Blade) (l : List Int) (i : Nat) : Bool := match b.st[i]? with
  | some s => inR (s.angle + sumTo l (i + 1)) s.lo s.hi
  | none => true
def straightTo (b : Blade) (l : List Int) : Nat → Bool
  | 0 => true
  | k + 1 => straightTo b l k && straightAt b l k
def costTo (b : Blade) (l : List Int) : Nat → Int
  | 0 => 0
  | k + 1 => costTo b l k + (match b.st[k]?, l[k]? with | some s, some x => absI x * s.hard | _, _ => 0)
theorem costTo_succ {b : Blade} {l : List Int} {k : Nat} {s : Stn} {x : Int} (hs : b.st[k]? = some s) (hx : l[k]? = some x) : costTo b l (k + 1) = costTo b l k + absI x * s.hard := by simp [costTo, hs, hx]
theorem straightTo_not {b : Blade} {l : List Int} {k : Nat} (h : straightAt b l k = false) : ∀ n, k < n → straightTo b l n = false
  | n + 1, g => by
    rcases Nat.lt_or_ge k n with g2 | g2
    · simp [straightTo, straightTo_not h n g2]
    · obtain rfl : k = n := by omega
      simp [straightTo, h]
theorem absI_bound {x m : Int} (h : -m ≤ x ∧ x ≤ m) : 0 ≤ absI x ∧ absI x ≤ m := by unfold absI; split <;> omega
theorem costTo_bound {b : Blade} {l : List Int} (ok : BladeOk b) (h : ∀ x ∈ l, -200 ≤ x ∧ x ≤ 200) : ∀ k : Nat, 0 ≤ costTo b l k ∧ costTo b l k ≤ 1800 * k
  | 0 => by simp [costTo]
  | k + 1 => by
    have ih := costTo_bound ok h k
    cases hs : b.st[k]? with
    | none => simp only [costTo, hs]; omega
    | some s =>
      cases hx : l[k]? with
      | none => simp only [costTo, hs, hx]; omega
      | some x =>
        have h1 := absI_bound (h x (List.mem_of_getElem? hx))
        have h2 := ok.stn hs
        have h3 : absI x * s.hard ≤ 200 * 9 := Int.mul_le_mul h1.2 (by omega) (by omega) (by omega)
        have h4 : 0 ≤ absI x * s.hard := Int.mul_nonneg h1.1 (by omega)
        rw [costTo_succ hs hx]
        omega
def checkErr (b : Blade) (l : List Int) : Int := if blowsErr b b.most l ≠ 0 then blowsErr b b.most l else if straightTo b l l.length = true then 0 else 18
def checkN (b : Blade) (l : List Int) : Int := if checkErr b l = 0 then costTo b l l.length else 0
/-- What it is that blows are given rightly. -/
structure BlowsOk (b : Blade) (l : List Int) : Prop where
  ok : BladeOk b
  len : l.length = b.st.length
  all : ∀ x ∈ l, -b.most ≤ x ∧ x ≤ b.most
theorem blowsOk {b : Blade} {l : List Int} (h : blowsErr b b.most l = 0) : BlowsOk b l := by
  unfold blowsErr at h
  by_cases h1 : bladeErr b = 0
  · rw [if_neg (by simpa using h1)] at h
    split at h
    · cases h
    · split at h
      · cases h
      · rename_i h2 h3
        refine ⟨bladeOk h1, by simpa using h2, fun x hx => ?_⟩
        have h4 := List.all_eq_true.1 (by simpa using h3 : l.all (fun x => inR x (-b.most) b.most) = true) x hx
        simpa [inR] using h4
  · rw [if_pos h1] at h
    exact absurd h h1
theorem BlowsOk.all2 {b : Blade} {l : List Int} (h : BlowsOk b l) : ∀ x ∈ l, -200 ≤ x ∧ x ≤ 200 := fun x hx => by
  have := h.all x hx
  have := h.ok.m1
  omega
set_option maxRecDepth 100000 in
set_option maxHeartbeats 4000000 in
theorem refCheckBlows_c (b : Blade) (l : List Int) : ACall Try.prog 19 [bladeD b, intL l] (.tup [iD (checkN b l), iD (checkErr b l)]) := by
  have ca := refAfter_c b l
  by_cases h0 : blowsErr b b.most l = 0
  · have hb := blowsOk h0
    have ok := hb.ok
    have hlen := hb.len
    have hn2 := ok.n2
    have e1 : checkErr b l = if straightTo b l l.length = true then 0 else 18 := by rw [checkErr, if_neg (by simpa using h0)]
    rw [afterL, h0, if_pos rfl] at ca
    obtain ⟨r, hr⟩ : ∃ r, r = (Dat.tup [iD (checkN b l), iD (checkErr b l)]) := ⟨_, rfl⟩
    rw [← hr]
    refine acallK tabOk Try.func19 rfl rfl (show 2 ≤ _ by decide) rfl fun _ => ?_; simp only [Try.ntmps19]
    repeat (first | (with_reducible refine AWp.seqK fun _ => ?_) | (with_reducible refine AWp.blockK fun _ => ?_) | (with_reducible refine KK.go ?_) | (refine AWp.reg tabOk ?_; simp [-getElem?_pos, z0, z1, z2, ]) | (refine AWp.condK fun _ _ => ?_; simp [-getElem?_pos, z0, z1, z2, ]) | (refine AWp.ret ?_; try simp only [thenP]) | (refine AWp.skip ?_; try simp only [thenP]) | (refine AWp.exit ?_; try simp only [thenP]) | (with_reducible refine AWp.scopeK fun _ => ?_) | (refine AWp.label ?_; try simp only [thenP]) | (with_reducible refine SS.go (fun _ h => by cases h) ?_; try simp only [blockP, thenP]) | (with_reducible refine BB.go ?_; simp only [blockP, thenP, if_true, if_false, reduceIte]) | (refine AWp.draws tabOk (by kernel_rfl) (by kernel_rfl) ?_; simp [-getElem?_pos, z0, z1, z2, ]) | (with_reducible refine And.intro (show okLog _ _ = true from by kernel_rfl) ?_))
    (first | refine Exec0.call [] ca ?_ rfl ?_ ?_ | refine Exec.call [] ca ?_ rfl ?_ ?_); (focus simp [-getElem?_pos, ]); (focus simp [-getElem?_pos, z0, z1, z2, ]); simp [-getElem?_pos, z0, z1, z2, ]
    repeat (first | (with_reducible refine AWp.seqK fun _ => ?_) | (with_reducible refine AWp.blockK fun _ => ?_) | (with_reducible refine KK.go ?_) | (refine AWp.reg tabOk ?_; simp [-getElem?_pos, z0, z1, z2, ]) | (refine AWp.condK fun _ _ => ?_; simp [-getElem?_pos, z0, z1, z2, ]) | (refine AWp.ret ?_; try simp only [thenP]) | (refine AWp.skip ?_; try simp only [thenP]) | (refine AWp.exit ?_; try simp only [thenP]) | (with_reducible refine AWp.scopeK fun _ => ?_) | (refine AWp.label ?_; try simp only [thenP]) | (with_reducible refine SS.go (fun _ h => by cases h) ?_; try simp only [blockP, thenP]) | (with_reducible refine BB.go ?_; simp only [blockP, thenP, if_true, if_false, reduceIte]) | (refine AWp.draws tabOk (by kernel_rfl) (by kernel_rfl) ?_; simp [-getElem?_pos, z0, z1, z2, ]) | (with_reducible refine And.intro (show okLog _ _ = true from by kernel_rfl) ?_))
    refine AWp.loopK (ι := { k : Nat // k ≤ l.length ∧ straightTo b l k = true }) (n := 1) (fun k => [(1, .d (intL l)), (2, .ptr 0 0 0), (6, .d (intL (turnTo b l l.length))), (8, .d (iD (costTo b l k.1))), (9, .d (iD k.1))]) (fun _ => [(0, .box 24 [.d (.list (stnRows b.st)), .d (iD b.most)] false)]) (fun k => l.length - k.1) ⟨0, Nat.zero_le _, rfl⟩ [0] ?_ ?_
    · refine ⟨by rfl, by simp [costTo], by simp [or_imp, forall_and, costTo] <;> (try (intro _hne; simp [_hne])), by decide⟩
    rintro ⟨k, hk, hall⟩ kk
    have w1 : IntKind.i64.wrap ((k : Int) + 1) = (k : Int) + 1 := wrap64_in (by omega)
    by_cases hlt : k < l.length
    · obtain ⟨x, hx⟩ : ∃ x, l[k]? = some x := ⟨_, List.getElem?_eq_getElem hlt⟩
      obtain ⟨s, hs⟩ : ∃ s, b.st[k]? = some s := ⟨_, List.getElem?_eq_getElem (by omega)⟩
      have ht := turnTo_get (l := l) hs l.length hlt
      have ci := inside_c (s.angle + sumTo l (k + 1)) s.lo s.hi
      have hsa : straightAt b l k = inR (s.angle + sumTo l (k + 1)) s.lo s.hi := by simp [straightAt, hs]
      generalize s.angle + sumTo l (k + 1) = v at *
      rcases g : inR v s.lo s.hi <;> rw [g] at ci
      · have hst := straightTo_not (hsa.trans g) l.length hlt
        have er : checkErr b l = 18 := by rw [e1, if_neg (by simp [hst])]
        have hr' : r = .tup [iD 0, iD 18] := by rw [hr, checkN, er, if_neg (by decide)]
        repeat (first | (with_reducible refine AWp.seqK fun _ => ?_) | (with_reducible refine AWp.blockK fun _ => ?_) | (with_reducible refine KK.go ?_) | (refine AWp.reg tabOk ?_; simp [-getElem?_pos, z0, z1, z2, hlt, hs, hx, ht]) | (refine AWp.condK fun _ _ => ?_; simp [-getElem?_pos, z0, z1, z2, hlt, hs, hx, ht]) | (refine AWp.ret ?_; try simp only [thenP]) | (refine AWp.skip ?_; try simp only [thenP]) | (refine AWp.exit ?_; try simp only [thenP]) | (with_reducible refine AWp.scopeK fun _ => ?_) | (refine AWp.label ?_; try simp only [thenP]) | (with_reducible refine SS.go (fun _ h => by cases h) ?_; try simp only [blockP, thenP]) | (with_reducible refine BB.go ?_; simp only [blockP, thenP, if_true, if_false, reduceIte]) | (refine AWp.draws tabOk (by kernel_rfl) (by kernel_rfl) ?_; simp [-getElem?_pos, z0, z1, z2, hlt, hs, hx, ht]) | (with_reducible refine And.intro (show okLog _ _ = true from by kernel_rfl) ?_))
        (first | refine Exec0.call [] ci ?_ rfl ?_ ?_ | refine Exec.call [] ci ?_ rfl ?_ ?_); (focus simp [-getElem?_pos, ]); (focus simp [-getElem?_pos, z0, z1, z2, ]); simp [-getElem?_pos, z0, z1, z2, ]
        repeat (first | (with_reducible refine AWp.seqK fun _ => ?_) | (with_reducible refine AWp.blockK fun _ => ?_) | (with_reducible refine KK.go ?_) | (refine AWp.reg tabOk ?_; simp [-getElem?_pos, z0, z1, z2, ]) | (refine AWp.condK fun _ _ => ?_; simp [-getElem?_pos, z0, z1, z2, ]) | (refine AWp.ret ?_; try simp only [thenP]) | (refine AWp.skip ?_; try simp only [thenP]) | (refine AWp.exit ?_; try simp only [thenP]) | (with_reducible refine AWp.scopeK fun _ => ?_) | (refine AWp.label ?_; try simp only [thenP]) | (with_reducible refine SS.go (fun _ h => by cases h) ?_; try simp only [blockP, thenP]) | (with_reducible refine BB.go ?_; simp only [blockP, thenP, if_true, if_false, reduceIte]) | (refine AWp.draws tabOk (by kernel_rfl) (by kernel_rfl) ?_; simp [-getElem?_pos, z0, z1, z2, ]) | (with_reducible refine And.intro (show okLog _ _ = true from by kernel_rfl) ?_))
        (first | refine RR.ret ?_ | refine RR.normal ?_); simp [hr']
      · have hall2 : straightTo b l (k + 1) = true := by simp [straightTo, hall, hsa, g]
        have hxb := hb.all2 x (List.mem_of_getElem? hx)
        have ham := amount_c x (by omega)
        have h1 := absI_bound hxb
        have h2 := ok.stn hs
        have h3 : absI x * s.hard ≤ 200 * 9 := Int.mul_le_mul h1.2 (by omega) (by omega) (by omega)
        have h4 : 0 ≤ absI x * s.hard := Int.mul_nonneg h1.1 (by omega)
        have h5 := costTo_bound ok hb.all2 k
        have w2 : IntKind.i64.wrap (absI x * s.hard) = absI x * s.hard := wrap64_in (by omega)
        have w3 : IntKind.i64.wrap (costTo b l k + absI x * s.hard) = costTo b l (k + 1) := by rw [costTo_succ hs hx]; exact wrap64_in (by omega)
        repeat (first | (with_reducible refine AWp.seqK fun _ => ?_) | (with_reducible refine AWp.blockK fun _ => ?_) | (with_reducible refine KK.go ?_) | (refine AWp.reg tabOk ?_; simp [-getElem?_pos, z0, z1, z2, hlt, hs, hx, ht]) | (refine AWp.condK fun _ _ => ?_; simp [-getElem?_pos, z0, z1, z2, hlt, hs, hx, ht]) | (refine AWp.ret ?_; try simp only [thenP]) | (refine AWp.skip ?_; try simp only [thenP]) | (refine AWp.exit ?_; try simp only [thenP]) | (with_reducible refine AWp.scopeK fun _ => ?_) | (refine AWp.label ?_; try simp only [thenP]) | (with_reducible refine SS.go (fun _ h => by cases h) ?_; try simp only [blockP, thenP]) | (with_reducible refine BB.go ?_; simp only [blockP, thenP, if_true, if_false, reduceIte]) | (refine AWp.draws tabOk (by kernel_rfl) (by kernel_rfl) ?_; simp [-getElem?_pos, z0, z1, z2, hlt, hs, hx, ht]) | (with_reducible refine And.intro (show okLog _ _ = true from by kernel_rfl) ?_))
        (first | refine Exec0.call [] ci ?_ rfl ?_ ?_ | refine Exec.call [] ci ?_ rfl ?_ ?_); (focus simp [-getElem?_pos, ]); (focus simp [-getElem?_pos, z0, z1, z2, ]); simp [-getElem?_pos, z0, z1, z2, ]
        repeat (first | (with_reducible refine AWp.seqK fun _ => ?_) | (with_reducible refine AWp.blockK fun _ => ?_) | (with_reducible refine KK.go ?_) | (refine AWp.reg tabOk ?_; simp [-getElem?_pos, z0, z1, z2, hs, hx]) | (refine AWp.condK fun _ _ => ?_; simp [-getElem?_pos, z0, z1, z2, hs, hx]) | (refine AWp.ret ?_; try simp only [thenP]) | (refine AWp.skip ?_; try simp only [thenP]) | (refine AWp.exit ?_; try simp only [thenP]) | (with_reducible refine AWp.scopeK fun _ => ?_) | (refine AWp.label ?_; try simp only [thenP]) | (with_reducible refine SS.go (fun _ h => by cases h) ?_; try simp only [blockP, thenP]) | (with_reducible refine BB.go ?_; simp only [blockP, thenP, if_true, if_false, reduceIte]) | (refine AWp.draws tabOk (by kernel_rfl) (by kernel_rfl) ?_; simp [-getElem?_pos, z0, z1, z2, hs, hx]) | (with_reducible refine And.intro (show okLog _ _ = true from by kernel_rfl) ?_))
        (first | refine Exec0.call [] ham ?_ rfl ?_ ?_ | refine Exec.call [] ham ?_ rfl ?_ ?_); (focus simp [-getElem?_pos, w2, w3]); (focus simp [-getElem?_pos, z0, z1, z2, w2, w3]); simp [-getElem?_pos, z0, z1, z2, w2, w3]
        repeat (first | (with_reducible refine AWp.seqK fun _ => ?_) | (with_reducible refine AWp.blockK fun _ => ?_) | (with_reducible refine KK.go ?_) | (refine AWp.reg tabOk ?_; simp [-getElem?_pos, z0, z1, z2, w1, w2, w3]) | (refine AWp.condK fun _ _ => ?_; simp [-getElem?_pos, z0, z1, z2, w1, w2, w3]) | (refine AWp.ret ?_; try simp only [thenP]) | (refine AWp.skip ?_; try simp only [thenP]) | (refine AWp.exit ?_; try simp only [thenP]) | (with_reducible refine AWp.scopeK fun _ => ?_) | (refine AWp.label ?_; try simp only [thenP]) | (with_reducible refine SS.go (fun _ h => by cases h) ?_; try simp only [blockP, thenP]) | (with_reducible refine BB.go ?_; simp only [blockP, thenP, if_true, if_false, reduceIte]) | (refine AWp.draws tabOk (by kernel_rfl) (by kernel_rfl) ?_; simp [-getElem?_pos, z0, z1, z2, w1, w2, w3]) | (with_reducible refine And.intro (show okLog _ _ = true from by kernel_rfl) ?_))
        refine LL.go ⟨k + 1, hlt, hall2⟩ [0] ⟨by rfl, by simp [], by simp [or_imp, forall_and, ] <;> (try (intro _hne; simp [_hne])), by decide⟩ ?_
        simp; omega
    · obtain rfl : k = l.length := by omega
      have er : checkErr b l = 0 := by rw [e1, if_pos hall]
      have hr' : r = .tup [iD (costTo b l l.length), iD 0] := by rw [hr, checkN, er, if_pos rfl]
      repeat (first | (with_reducible refine AWp.seqK fun _ => ?_) | (with_reducible refine AWp.blockK fun _ => ?_) | (with_reducible refine KK.go ?_) | (refine AWp.reg tabOk ?_; simp [-getElem?_pos, z0, z1, z2, hlt]) | (refine AWp.condK fun _ _ => ?_; simp [-getElem?_pos, z0, z1, z2, hlt]) | (refine AWp.ret ?_; try simp only [thenP]) | (refine AWp.skip ?_; try simp only [thenP]) | (refine AWp.exit ?_; try simp only [thenP]) | (with_reducible refine AWp.scopeK fun _ => ?_) | (refine AWp.label ?_; try simp only [thenP]) | (with_reducible refine SS.go (fun _ h => by cases h) ?_; try simp only [blockP, thenP]) | (with_reducible refine BB.go ?_; simp only [blockP, thenP, if_true, if_false, reduceIte]) | (refine AWp.draws tabOk (by kernel_rfl) (by kernel_rfl) ?_; simp [-getElem?_pos, z0, z1, z2, hlt]) | (with_reducible refine And.intro (show okLog _ _ = true from by kernel_rfl) ?_))
      (first | refine RR.ret ?_ | refine RR.normal ?_); simp [hr']
  · have er : checkErr b l = blowsErr b b.most l := if_pos h0
    have hr' : checkN b l = 0 := by rw [checkN, er, if_neg h0]
    rw [afterL, if_neg h0] at ca
    rw [hr', er]
    generalize blowsErr b b.most l = e at *
    refine acallK tabOk Try.func19 rfl rfl (show 2 ≤ _ by decide) rfl fun _ => ?_; simp only [Try.ntmps19]
    repeat (first | (with_reducible refine AWp.seqK fun _ => ?_) | (with_reducible refine AWp.blockK fun _ => ?_) | (with_reducible refine KK.go ?_) | (refine AWp.reg tabOk ?_; simp [-getElem?_pos, z0, z1, z2, ]) | (refine AWp.condK fun _ _ => ?_; simp [-getElem?_pos, z0, z1, z2, ]) | (refine AWp.ret ?_; try simp only [thenP]) | (refine AWp.skip ?_; try simp only [thenP]) | (refine AWp.exit ?_; try simp only [thenP]) | (with_reducible refine AWp.scopeK fun _ => ?_) | (refine AWp.label ?_; try simp only [thenP]) | (with_reducible refine SS.go (fun _ h => by cases h) ?_; try simp only [blockP, thenP]) | (with_reducible refine BB.go ?_; simp only [blockP, thenP, if_true, if_false, reduceIte]) | (refine AWp.draws tabOk (by kernel_rfl) (by kernel_rfl) ?_; simp [-getElem?_pos, z0, z1, z2, ]) | (with_reducible refine And.intro (show okLog _ _ = true from by kernel_rfl) ?_))
    (first | refine Exec0.call [] ca ?_ rfl ?_ ?_ | refine Exec.call [] ca ?_ rfl ?_ ?_); (focus simp [-getElem?_pos, ]); (focus simp [-getElem?_pos, z0, z1, z2, ]); simp [-getElem?_pos, z0, z1, z2, ]
    repeat (first | (with_reducible refine AWp.seqK fun _ => ?_) | (with_reducible refine AWp.blockK fun _ => ?_) | (with_reducible refine KK.go ?_) | (refine AWp.reg tabOk ?_; simp [-getElem?_pos, z0, z1, z2, h0]) | (refine AWp.condK fun _ _ => ?_; simp [-getElem?_pos, z0, z1, z2, h0]) | (refine AWp.ret ?_; try simp only [thenP]) | (refine AWp.skip ?_; try simp only [thenP]) | (refine AWp.exit ?_; try simp only [thenP]) | (with_reducible refine AWp.scopeK fun _ => ?_) | (refine AWp.label ?_; try simp only [thenP]) | (with_reducible refine SS.go (fun _ h => by cases h) ?_; try simp only [blockP, thenP]) | (with_reducible refine BB.go ?_; simp only [blockP, thenP, if_true, if_false, reduceIte]) | (refine AWp.draws tabOk (by kernel_rfl) (by kernel_rfl) ?_; simp [-getElem?_pos, z0, z1, z2, h0]) | (with_reducible refine And.intro (show okLog _ _ = true from by kernel_rfl) ?_))
    (first | refine RR.ret ?_ | refine RR.normal ?_); simp []
end Go.Proofs.Ytnhhlmikkmjenaa.Eng

/-
  Layer 2: stations that contradict each other, in the reference.
-/
namespace Go.Proofs.Ytnhhlmikkmjenaa.Eng
open Go.RowKit

theorem tubeN_bound {b : Blade} (ok : BladeOk b) (i : Int) : -200 ≤ (tubeN b i).1 ∧ (tubeN b i).1 ≤ 200 ∧ -200 ≤ (tubeN b i).2 ∧ (tubeN b i).2 ≤ 200 := by
  unfold tubeN
  split
  · simp
  · split
    · rename_i s hs
      have := ok.stn hs
      simp only [tubeS]
      omega
    · simp
def contraB (b : Blade) (i k : Int) : Bool :=
  decide (b.most * (k - i) < if (tubeN b i).1 - (tubeN b k).2 < (tubeN b k).1 - (tubeN b i).2 then (tubeN b k).1 - (tubeN b i).2 else (tubeN b i).1 - (tubeN b k).2)
def clashRow (b : Blade) (i : Int) (k : Nat) : Nat → Option Nat
  | 0 => none
  | d + 1 => if contraB b i k = true then some k else clashRow b i (k + 1) d
def clashAll (b : Blade) (j : Nat) : Nat → Option (Int × Nat)
  | 0 => none
  | d + 1 => match clashRow b ((j : Int) - 1) j (b.st.length - j) with
    | some k => some ((j : Int) - 1, k)
    | none => clashAll b (j + 1) d
def clashN (b : Blade) : Option (Int × Nat) := clashAll b 0 (b.st.length + 1)
def clashD (b : Blade) : Dat := if bladeErr b = 0 then match clashN b with
    | some (i, k) => .tup [iD i, iD k, iD 0]
    | none => .tup [iD 0, iD 0, iD 5]
  else .tup [iD 0, iD 0, iD (bladeErr b)]
set_option maxRecDepth 100000 in
set_option maxHeartbeats 4000000 in
theorem refClash_c (b : Blade) : ACall Try.prog 21 [bladeD b] (clashD b) := by
  have cb := refCheckBlade_c b
  by_cases h0 : bladeErr b = 0
  · have ok := bladeOk h0
    have hn2 := ok.n2
    have hm0 := ok.m0
    have hm1 := ok.m1
    rw [h0] at cb
    obtain ⟨r, hr⟩ : ∃ r, r = clashD b := ⟨_, rfl⟩
    rw [← hr]
    rw [clashD, if_pos h0] at hr
    refine acallK tabOk Try.func21 rfl rfl (show 1 ≤ _ by decide) rfl fun _ => ?_; simp only [Try.ntmps21]
    repeat (first | (with_reducible refine AWp.seqK fun _ => ?_) | (with_reducible refine AWp.blockK fun _ => ?_) | (with_reducible refine KK.go ?_) | (refine AWp.reg tabOk ?_; simp [-getElem?_pos, z0, z1, z2, ]) | (refine AWp.condK fun _ _ => ?_; simp [-getElem?_pos, z0, z1, z2, ]) | (refine AWp.ret ?_; try simp only [thenP]) | (refine AWp.skip ?_; try simp only [thenP]) | (refine AWp.exit ?_; try simp only [thenP]) | (with_reducible refine AWp.scopeK fun _ => ?_) | (refine AWp.label ?_; try simp only [thenP]) | (with_reducible refine SS.go (fun _ h => by cases h) ?_; try simp only [blockP, thenP]) | (with_reducible refine BB.go ?_; simp only [blockP, thenP, if_true, if_false, reduceIte]) | (refine AWp.draws tabOk (by kernel_rfl) (by kernel_rfl) ?_; simp [-getElem?_pos, z0, z1, z2, ]) | (with_reducible refine And.intro (show okLog _ _ = true from by kernel_rfl) ?_))
    (first | refine Exec0.call [] cb ?_ rfl ?_ ?_ | refine Exec.call [] cb ?_ rfl ?_ ?_); (focus simp [-getElem?_pos, ]); (focus simp [-getElem?_pos, z0, z1, z2, ]); simp [-getElem?_pos, z0, z1, z2, ]
    repeat (first | (with_reducible refine AWp.seqK fun _ => ?_) | (with_reducible refine AWp.blockK fun _ => ?_) | (with_reducible refine KK.go ?_) | (refine AWp.reg tabOk ?_; simp [-getElem?_pos, z0, z1, z2, ]) | (refine AWp.condK fun _ _ => ?_; simp [-getElem?_pos, z0, z1, z2, ]) | (refine AWp.ret ?_; try simp only [thenP]) | (refine AWp.skip ?_; try simp only [thenP]) | (refine AWp.exit ?_; try simp only [thenP]) | (with_reducible refine AWp.scopeK fun _ => ?_) | (refine AWp.label ?_; try simp only [thenP]) | (with_reducible refine SS.go (fun _ h => by cases h) ?_; try simp only [blockP, thenP]) | (with_reducible refine BB.go ?_; simp only [blockP, thenP, if_true, if_false, reduceIte]) | (refine AWp.draws tabOk (by kernel_rfl) (by kernel_rfl) ?_; simp [-getElem?_pos, z0, z1, z2, ]) | (with_reducible refine And.intro (show okLog _ _ = true from by kernel_rfl) ?_))
    refine AWp.loopK (ι := { j : Nat // j ≤ b.st.length + 1 ∧ clashAll b j (b.st.length + 1 - j) = clashN b }) (n := 1) (fun j => [(1, .ptr 0 0 0), (5, .d (iD ((j.1 : Int) - 1)))]) (fun _ => [(0, .box 24 [.d (.list (stnRows b.st)), .d (iD b.most)] false)]) (fun j => b.st.length + 1 - j.1) ⟨0, Nat.zero_le _, rfl⟩ [0] ?_ ?_
    · refine ⟨by rfl, by simp [], by simp [or_imp, forall_and, ] <;> (try (intro _hne; simp [_hne])), by decide⟩
    rintro ⟨j, hj, hall⟩ kk
    have w1 : IntKind.i64.wrap (j : Int) = (j : Int) := wrap64_in (by omega)
    by_cases hlt : j < b.st.length + 1
    · have hlt' : (j : Int) - 1 < b.st.length := by omega
      rw [show b.st.length + 1 - j = b.st.length - j + 1 by omega, clashAll] at hall
      repeat (first | (with_reducible refine AWp.seqK fun _ => ?_) | (with_reducible refine AWp.blockK fun _ => ?_) | (with_reducible refine KK.go ?_) | (refine AWp.reg tabOk ?_; simp [-getElem?_pos, z0, z1, z2, hlt', w1]) | (refine AWp.condK fun _ _ => ?_; simp [-getElem?_pos, z0, z1, z2, hlt', w1]) | (refine AWp.ret ?_; try simp only [thenP]) | (refine AWp.skip ?_; try simp only [thenP]) | (refine AWp.exit ?_; try simp only [thenP]) | (with_reducible refine AWp.scopeK fun _ => ?_) | (refine AWp.label ?_; try simp only [thenP]) | (with_reducible refine SS.go (fun _ h => by cases h) ?_; try simp only [blockP, thenP]) | (with_reducible refine BB.go ?_; simp only [blockP, thenP, if_true, if_false, reduceIte]) | (refine AWp.draws tabOk (by kernel_rfl) (by kernel_rfl) ?_; simp [-getElem?_pos, z0, z1, z2, hlt', w1]) | (with_reducible refine And.intro (show okLog _ _ = true from by kernel_rfl) ?_))
      refine AWp.loopK (ι := { k : Nat // j ≤ k ∧ k ≤ b.st.length ∧ clashRow b ((j : Int) - 1) k (b.st.length - k) = clashRow b ((j : Int) - 1) j (b.st.length - j) }) (n := 1) (fun k => [(1, .ptr 0 0 0), (5, .d (iD ((j : Int) - 1))), (6, .d (iD k.1))]) (fun _ => [(0, .box 24 [.d (.list (stnRows b.st)), .d (iD b.most)] false)]) (fun k => b.st.length - k.1) ⟨j, Nat.le_refl _, by omega, rfl⟩ [0] ?_ ?_
      · refine ⟨by rfl, by simp [], by simp [or_imp, forall_and, ] <;> (try (intro _hne; simp [_hne])), by decide⟩
      rintro ⟨k, hjk, hk, hrow⟩ kk2
      have w2 : IntKind.i64.wrap ((k : Int) + 1) = (k : Int) + 1 := wrap64_in (by omega)
      by_cases hlt2 : k < b.st.length
      · have c1 := refTube_c ok (i := (j : Int) - 1) (by omega) (by omega)
        have c2 := refTube_c ok (i := (k : Int)) (by omega) (by omega)
        have hcb : contraB b ((j : Int) - 1) k = decide (b.most * ((k : Int) - ((j : Int) - 1)) < if (tubeN b ((j : Int) - 1)).1 - (tubeN b k).2 < (tubeN b k).1 - (tubeN b ((j : Int) - 1)).2 then (tubeN b k).1 - (tubeN b ((j : Int) - 1)).2 else (tubeN b ((j : Int) - 1)).1 - (tubeN b k).2) := rfl
        have t1 := tubeN_bound ok ((j : Int) - 1)
        have t2 := tubeN_bound ok (k : Int)
        rw [show b.st.length - k = b.st.length - (k + 1) + 1 by omega, clashRow] at hrow
        generalize tubeN b ((j : Int) - 1) = x at *
        generalize tubeN b (k : Int) = y at *
        have v1 : IntKind.i64.wrap (x.1 - y.2) = x.1 - y.2 := wrap64_in (by omega)
        have v2 : IntKind.i64.wrap (y.1 - x.2) = y.1 - x.2 := wrap64_in (by omega)
        have v3 : IntKind.i64.wrap ((k : Int) - ((j : Int) - 1)) = (k : Int) - ((j : Int) - 1) := wrap64_in (by omega)
        have hmul : 0 ≤ b.most * ((k : Int) - ((j : Int) - 1)) := Int.mul_nonneg hm0 (by omega)
        have hmul2 : b.most * ((k : Int) - ((j : Int) - 1)) ≤ 200 * 21 := Int.mul_le_mul hm1 (by omega) (by omega) (by omega)
        have v4 : IntKind.i64.wrap (b.most * ((k : Int) - ((j : Int) - 1))) = b.most * ((k : Int) - ((j : Int) - 1)) := wrap64_in (by omega)
        by_cases g : contraB b ((j : Int) - 1) k = true
        · rw [if_pos g] at hrow
          rw [← hrow] at hall
          have hr' : r = .tup [iD ((j : Int) - 1), iD k, iD 0] := by rw [hr, ← hall]
          rw [hcb, decide_eq_true_eq] at g
          repeat (first | (with_reducible refine AWp.seqK fun _ => ?_) | (with_reducible refine AWp.blockK fun _ => ?_) | (with_reducible refine KK.go ?_) | (refine AWp.reg tabOk ?_; simp [-getElem?_pos, z0, z1, z2, hlt2]) | (refine AWp.condK fun _ _ => ?_; simp [-getElem?_pos, z0, z1, z2, hlt2]) | (refine AWp.ret ?_; try simp only [thenP]) | (refine AWp.skip ?_; try simp only [thenP]) | (refine AWp.exit ?_; try simp only [thenP]) | (with_reducible refine AWp.scopeK fun _ => ?_) | (refine AWp.label ?_; try simp only [thenP]) | (with_reducible refine SS.go (fun _ h => by cases h) ?_; try simp only [blockP, thenP]) | (with_reducible refine BB.go ?_; simp only [blockP, thenP, if_true, if_false, reduceIte]) | (refine AWp.draws tabOk (by kernel_rfl) (by kernel_rfl) ?_; simp [-getElem?_pos, z0, z1, z2, hlt2]) | (with_reducible refine And.intro (show okLog _ _ = true from by kernel_rfl) ?_))
          (first | refine Exec0.call [] c1 ?_ rfl ?_ ?_ | refine Exec.call [] c1 ?_ rfl ?_ ?_); (focus simp [-getElem?_pos, ]); (focus simp [-getElem?_pos, z0, z1, z2, ]); simp [-getElem?_pos, z0, z1, z2, ]
          (first | refine Exec0.call [] c2 ?_ rfl ?_ ?_ | refine Exec.call [] c2 ?_ rfl ?_ ?_); (focus simp [-getElem?_pos, ]); (focus simp [-getElem?_pos, z0, z1, z2, ]); simp [-getElem?_pos, z0, z1, z2, ]
          repeat (first | (with_reducible refine AWp.seqK fun _ => ?_) | (with_reducible refine AWp.blockK fun _ => ?_) | (with_reducible refine KK.go ?_) | (refine AWp.reg tabOk ?_; simp [-getElem?_pos, z0, z1, z2, v1, v2, v3, v4, g]) | (refine AWp.condK fun _ _ => ?_; simp [-getElem?_pos, z0, z1, z2, v1, v2, v3, v4, g]) | (refine AWp.ret ?_; try simp only [thenP]) | (refine AWp.skip ?_; try simp only [thenP]) | (refine AWp.exit ?_; try simp only [thenP]) | (with_reducible refine AWp.scopeK fun _ => ?_) | (refine AWp.label ?_; try simp only [thenP]) | (with_reducible refine SS.go (fun _ h => by cases h) ?_; try simp only [blockP, thenP]) | (with_reducible refine BB.go ?_; simp only [blockP, thenP, if_true, if_false, reduceIte]) | (refine AWp.draws tabOk (by kernel_rfl) (by kernel_rfl) ?_; simp [-getElem?_pos, z0, z1, z2, v1, v2, v3, v4, g]) | (with_reducible refine And.intro (show okLog _ _ = true from by kernel_rfl) ?_))
          (first | refine RR.ret ?_ | refine RR.normal ?_); simp [hr']
        · rw [if_neg g] at hrow
          rw [hcb, decide_eq_true_eq] at g
          repeat (first | (with_reducible refine AWp.seqK fun _ => ?_) | (with_reducible refine AWp.blockK fun _ => ?_) | (with_reducible refine KK.go ?_) | (refine AWp.reg tabOk ?_; simp [-getElem?_pos, z0, z1, z2, hlt2]) | (refine AWp.condK fun _ _ => ?_; simp [-getElem?_pos, z0, z1, z2, hlt2]) | (refine AWp.ret ?_; try simp only [thenP]) | (refine AWp.skip ?_; try simp only [thenP]) | (refine AWp.exit ?_; try simp only [thenP]) | (with_reducible refine AWp.scopeK fun _ => ?_) | (refine AWp.label ?_; try simp only [thenP]) | (with_reducible refine SS.go (fun _ h => by cases h) ?_; try simp only [blockP, thenP]) | (with_reducible refine BB.go ?_; simp only [blockP, thenP, if_true, if_false, reduceIte]) | (refine AWp.draws tabOk (by kernel_rfl) (by kernel_rfl) ?_; simp [-getElem?_pos, z0, z1, z2, hlt2]) | (with_reducible refine And.intro (show okLog _ _ = true from by kernel_rfl) ?_))
          (first | refine Exec0.call [] c1 ?_ rfl ?_ ?_ | refine Exec.call [] c1 ?_ rfl ?_ ?_); (focus simp [-getElem?_pos, ]); (focus simp [-getElem?_pos, z0, z1, z2, ]); simp [-getElem?_pos, z0, z1, z2, ]
          (first | refine Exec0.call [] c2 ?_ rfl ?_ ?_ | refine Exec.call [] c2 ?_ rfl ?_ ?_); (focus simp [-getElem?_pos, ]); (focus simp [-getElem?_pos, z0, z1, z2, ]); simp [-getElem?_pos, z0, z1, z2, ]
          repeat (first | (with_reducible refine AWp.seqK fun _ => ?_) | (with_reducible refine AWp.blockK fun _ => ?_) | (with_reducible refine KK.go ?_) | (refine AWp.reg tabOk ?_; simp [-getElem?_pos, z0, z1, z2, v1, v2, v3, v4, g, w2]) | (refine AWp.condK fun _ _ => ?_; simp [-getElem?_pos, z0, z1, z2, v1, v2, v3, v4, g, w2]) | (refine AWp.ret ?_; try simp only [thenP]) | (refine AWp.skip ?_; try simp only [thenP]) | (refine AWp.exit ?_; try simp only [thenP]) | (with_reducible refine AWp.scopeK fun _ => ?_) | (refine AWp.label ?_; try simp only [thenP]) | (with_reducible refine SS.go (fun _ h => by cases h) ?_; try simp only [blockP, thenP]) | (with_reducible refine BB.go ?_; simp only [blockP, thenP, if_true, if_false, reduceIte]) | (refine AWp.draws tabOk (by kernel_rfl) (by kernel_rfl) ?_; simp [-getElem?_pos, z0, z1, z2, v1, v2, v3, v4, g, w2]) | (with_reducible refine And.intro (show okLog _ _ = true from by kernel_rfl) ?_))
          refine LL.go ⟨k + 1, by omega, by omega, hrow⟩ [0] ⟨by rfl, by simp [], by simp [or_imp, forall_and, ] <;> (try (intro _hne; simp [_hne])), by decide⟩ ?_
          simp; omega
      · obtain rfl : k = b.st.length := by omega
        rw [Nat.sub_self, clashRow] at hrow
        rw [← hrow] at hall
        repeat (first | (with_reducible refine AWp.seqK fun _ => ?_) | (with_reducible refine AWp.blockK fun _ => ?_) | (with_reducible refine KK.go ?_) | (refine AWp.reg tabOk ?_; simp [-getElem?_pos, z0, z1, z2, hlt2, w1]) | (refine AWp.condK fun _ _ => ?_; simp [-getElem?_pos, z0, z1, z2, hlt2, w1]) | (refine AWp.ret ?_; try simp only [thenP]) | (refine AWp.skip ?_; try simp only [thenP]) | (refine AWp.exit ?_; try simp only [thenP]) | (with_reducible refine AWp.scopeK fun _ => ?_) | (refine AWp.label ?_; try simp only [thenP]) | (with_reducible refine SS.go (fun _ h => by cases h) ?_; try simp only [blockP, thenP]) | (with_reducible refine BB.go ?_; simp only [blockP, thenP, if_true, if_false, reduceIte]) | (refine AWp.draws tabOk (by kernel_rfl) (by kernel_rfl) ?_; simp [-getElem?_pos, z0, z1, z2, hlt2, w1]) | (with_reducible refine And.intro (show okLog _ _ = true from by kernel_rfl) ?_))
        refine LL.go ⟨j + 1, by omega, by rw [show b.st.length + 1 - (j + 1) = b.st.length - j by omega]; exact hall⟩ [0] ⟨by rfl, by simp [], by simp [or_imp, forall_and, ] <;> (try (intro _hne; simp [_hne])), by decide⟩ ?_
        simp; omega
    · obtain rfl : j = b.st.length + 1 := by omega
      rw [Nat.sub_self, clashAll] at hall
      have hr' : r = .tup [iD 0, iD 0, iD 5] := by rw [hr, ← hall]
      have hlt' : ¬ ((b.st.length + 1 : Nat) : Int) - 1 < b.st.length := by omega
      repeat (first | (with_reducible refine AWp.seqK fun _ => ?_) | (with_reducible refine AWp.blockK fun _ => ?_) | (with_reducible refine KK.go ?_) | (refine AWp.reg tabOk ?_; simp [-getElem?_pos, z0, z1, z2, hlt']) | (refine AWp.condK fun _ _ => ?_; simp [-getElem?_pos, z0, z1, z2, hlt']) | (refine AWp.ret ?_; try simp only [thenP]) | (refine AWp.skip ?_; try simp only [thenP]) | (refine AWp.exit ?_; try simp only [thenP]) | (with_reducible refine AWp.scopeK fun _ => ?_) | (refine AWp.label ?_; try simp only [thenP]) | (with_reducible refine SS.go (fun _ h => by cases h) ?_; try simp only [blockP, thenP]) | (with_reducible refine BB.go ?_; simp only [blockP, thenP, if_true, if_false, reduceIte]) | (refine AWp.draws tabOk (by kernel_rfl) (by kernel_rfl) ?_; simp [-getElem?_pos, z0, z1, z2, hlt']) | (with_reducible refine And.intro (show okLog _ _ = true from by kernel_rfl) ?_))
      (first | refine RR.ret ?_ | refine RR.normal ?_); simp [hr']
  · have hr' : clashD b = .tup [iD 0, iD 0, iD (bladeErr b)] := if_neg h0
    rw [hr']
    generalize bladeErr b = e at *
    refine acallK tabOk Try.func21 rfl rfl (show 1 ≤ _ by decide) rfl fun _ => ?_; simp only [Try.ntmps21]
    repeat (first | (with_reducible refine AWp.seqK fun _ => ?_) | (with_reducible refine AWp.blockK fun _ => ?_) | (with_reducible refine KK.go ?_) | (refine AWp.reg tabOk ?_; simp [-getElem?_pos, z0, z1, z2, ]) | (refine AWp.condK fun _ _ => ?_; simp [-getElem?_pos, z0, z1, z2, ]) | (refine AWp.ret ?_; try simp only [thenP]) | (refine AWp.skip ?_; try simp only [thenP]) | (refine AWp.exit ?_; try simp only [thenP]) | (with_reducible refine AWp.scopeK fun _ => ?_) | (refine AWp.label ?_; try simp only [thenP]) | (with_reducible refine SS.go (fun _ h => by cases h) ?_; try simp only [blockP, thenP]) | (with_reducible refine BB.go ?_; simp only [blockP, thenP, if_true, if_false, reduceIte]) | (refine AWp.draws tabOk (by kernel_rfl) (by kernel_rfl) ?_; simp [-getElem?_pos, z0, z1, z2, ]) | (with_reducible refine And.intro (show okLog _ _ = true from by kernel_rfl) ?_))
    (first | refine Exec0.call [] cb ?_ rfl ?_ ?_ | refine Exec.call [] cb ?_ rfl ?_ ?_); (focus simp [-getElem?_pos, ]); (focus simp [-getElem?_pos, z0, z1, z2, ]); simp [-getElem?_pos, z0, z1, z2, ]
    repeat (first | (with_reducible refine AWp.seqK fun _ => ?_) | (with_reducible refine AWp.blockK fun _ => ?_) | (with_reducible refine KK.go ?_) | (refine AWp.reg tabOk ?_; simp [-getElem?_pos, z0, z1, z2, h0]) | (refine AWp.condK fun _ _ => ?_; simp [-getElem?_pos, z0, z1, z2, h0]) | (refine AWp.ret ?_; try simp only [thenP]) | (refine AWp.skip ?_; try simp only [thenP]) | (refine AWp.exit ?_; try simp only [thenP]) | (with_reducible refine AWp.scopeK fun _ => ?_) | (refine AWp.label ?_; try simp only [thenP]) | (with_reducible refine SS.go (fun _ h => by cases h) ?_; try simp only [blockP, thenP]) | (with_reducible refine BB.go ?_; simp only [blockP, thenP, if_true, if_false, reduceIte]) | (refine AWp.draws tabOk (by kernel_rfl) (by kernel_rfl) ?_; simp [-getElem?_pos, z0, z1, z2, h0]) | (with_reducible refine And.intro (show okLog _ _ = true from by kernel_rfl) ?_))
    (first | refine Exec0.call [] cb ?_ rfl ?_ ?_ | refine Exec.call [] cb ?_ rfl ?_ ?_); (focus simp [-getElem?_pos, ]); (focus simp [-getElem?_pos, z0, z1, z2, ]); simp [-getElem?_pos, z0, z1, z2, ]
    repeat (first | (with_reducible refine AWp.seqK fun _ => ?_) | (with_reducible refine AWp.blockK fun _ => ?_) | (with_reducible refine KK.go ?_) | (refine AWp.reg tabOk ?_; simp [-getElem?_pos, z0, z1, z2, ]) | (refine AWp.condK fun _ _ => ?_; simp [-getElem?_pos, z0, z1, z2, ]) | (refine AWp.ret ?_; try simp only [thenP]) | (refine AWp.skip ?_; try simp only [thenP]) | (refine AWp.exit ?_; try simp only [thenP]) | (with_reducible refine AWp.scopeK fun _ => ?_) | (refine AWp.label ?_; try simp only [thenP]) | (with_reducible refine SS.go (fun _ h => by cases h) ?_; try simp only [blockP, thenP]) | (with_reducible refine BB.go ?_; simp only [blockP, thenP, if_true, if_false, reduceIte]) | (refine AWp.draws tabOk (by kernel_rfl) (by kernel_rfl) ?_; simp [-getElem?_pos, z0, z1, z2, ]) | (with_reducible refine And.intro (show okLog _ _ = true from by kernel_rfl) ?_))
    (first | refine RR.ret ?_ | refine RR.normal ?_); simp []
end Go.Proofs.Ytnhhlmikkmjenaa.Eng

/-
  Layer 2: package warp, which blades and numbers are valid; how a blade is turned.
-/
namespace Go.Proofs.Ytnhhlmikkmjenaa.Eng
open Go.RowKit

def within (m : Int) (l : List Int) : Bool := l.all fun x => inR x (-m) m
set_option maxRecDepth 100000 in
set_option maxHeartbeats 4000000 in
theorem amountsWithin_c (m : Int) (l : List Int) (hm : -1000000 ≤ m ∧ m ≤ 1000000) (hl : l.length ≤ 1000000) : ACall Try.prog 63 [iD m, intL l] (bD (within m l)) := by
  have wm : IntKind.i64.wrap (-m) = -m := wrap64_in (by omega)
  obtain ⟨r, hr⟩ : ∃ r, r = within m l := ⟨_, rfl⟩
  rw [← hr]
  refine acallK tabOk Try.func63 rfl rfl (show 2 ≤ _ by decide) rfl fun _ => ?_; simp only [Try.ntmps63]
  repeat (first | (with_reducible refine AWp.seqK fun _ => ?_) | (with_reducible refine AWp.blockK fun _ => ?_) | (with_reducible refine KK.go ?_) | (refine AWp.reg tabOk ?_; simp [-getElem?_pos, z0, z1, z2, ]) | (refine AWp.condK fun _ _ => ?_; simp [-getElem?_pos, z0, z1, z2, ]) | (refine AWp.ret ?_; try simp only [thenP]) | (refine AWp.skip ?_; try simp only [thenP]) | (refine AWp.exit ?_; try simp only [thenP]) | (with_reducible refine AWp.scopeK fun _ => ?_) | (refine AWp.label ?_; try simp only [thenP]) | (with_reducible refine SS.go (fun _ h => by cases h) ?_; try simp only [blockP, thenP]) | (with_reducible refine BB.go ?_; simp only [blockP, thenP, if_true, if_false, reduceIte]) | (refine AWp.draws tabOk (by kernel_rfl) (by kernel_rfl) ?_; simp [-getElem?_pos, z0, z1, z2, ]) | (with_reducible refine And.intro (show okLog _ _ = true from by kernel_rfl) ?_))
  refine AWp.loopK (ι := { k : Nat // k ≤ l.length ∧ within m (l.take k) = true }) (n := 0) (fun k => [(0, .d (iD m)), (7, .d (intL l)), (8, .d (iD l.length)), (9, .d (iD k.1))]) (fun _ => []) (fun k => l.length - k.1) ⟨0, Nat.zero_le _, by simp [within]⟩ [] ?_ ?_
  · refine ⟨by rfl, by simp [], by simp [or_imp, forall_and, ] <;> (try (intro _hne; simp [_hne])), by decide⟩
  rintro ⟨k, hk, hall⟩ kk
  have w1 : IntKind.i64.wrap ((k : Int) + 1) = (k : Int) + 1 := wrap64_in (by omega)
  by_cases hlt : k < l.length
  · obtain ⟨x, hx⟩ : ∃ x, l[k]? = some x := ⟨_, List.getElem?_eq_getElem hlt⟩
    by_cases g : x < -m
    · have hr' : r = false := by rw [hr]; exact all_not hx (p := fun x => inR x (-m) m) (decide_eq_false fun h => by omega)
      repeat (first | (with_reducible refine AWp.seqK fun _ => ?_) | (with_reducible refine AWp.blockK fun _ => ?_) | (with_reducible refine KK.go ?_) | (refine AWp.reg tabOk ?_; simp [-getElem?_pos, z0, z1, z2, hlt, hx, wm, g]) | (refine AWp.condK fun _ _ => ?_; simp [-getElem?_pos, z0, z1, z2, hlt, hx, wm, g]) | (refine AWp.ret ?_; try simp only [thenP]) | (refine AWp.skip ?_; try simp only [thenP]) | (refine AWp.exit ?_; try simp only [thenP]) | (with_reducible refine AWp.scopeK fun _ => ?_) | (refine AWp.label ?_; try simp only [thenP]) | (with_reducible refine SS.go (fun _ h => by cases h) ?_; try simp only [blockP, thenP]) | (with_reducible refine BB.go ?_; simp only [blockP, thenP, if_true, if_false, reduceIte]) | (refine AWp.draws tabOk (by kernel_rfl) (by kernel_rfl) ?_; simp [-getElem?_pos, z0, z1, z2, hlt, hx, wm, g]) | (with_reducible refine And.intro (show okLog _ _ = true from by kernel_rfl) ?_))
      (first | refine RR.ret ?_ | refine RR.normal ?_); simp [hr']
    by_cases g2 : m < x
    · have hr' : r = false := by rw [hr]; exact all_not hx (p := fun x => inR x (-m) m) (decide_eq_false fun h => by omega)
      repeat (first | (with_reducible refine AWp.seqK fun _ => ?_) | (with_reducible refine AWp.blockK fun _ => ?_) | (with_reducible refine KK.go ?_) | (refine AWp.reg tabOk ?_; simp [-getElem?_pos, z0, z1, z2, hlt, hx, wm, g, g2]) | (refine AWp.condK fun _ _ => ?_; simp [-getElem?_pos, z0, z1, z2, hlt, hx, wm, g, g2]) | (refine AWp.ret ?_; try simp only [thenP]) | (refine AWp.skip ?_; try simp only [thenP]) | (refine AWp.exit ?_; try simp only [thenP]) | (with_reducible refine AWp.scopeK fun _ => ?_) | (refine AWp.label ?_; try simp only [thenP]) | (with_reducible refine SS.go (fun _ h => by cases h) ?_; try simp only [blockP, thenP]) | (with_reducible refine BB.go ?_; simp only [blockP, thenP, if_true, if_false, reduceIte]) | (refine AWp.draws tabOk (by kernel_rfl) (by kernel_rfl) ?_; simp [-getElem?_pos, z0, z1, z2, hlt, hx, wm, g, g2]) | (with_reducible refine And.intro (show okLog _ _ = true from by kernel_rfl) ?_))
      (first | refine RR.ret ?_ | refine RR.normal ?_); simp [hr']
    · have hall2 : within m (l.take (k + 1)) = true := by
        unfold within at hall ⊢
        rw [all_take hx, hall, Bool.true_and]
        exact decide_eq_true ⟨by omega, by omega⟩
      repeat (first | (with_reducible refine AWp.seqK fun _ => ?_) | (with_reducible refine AWp.blockK fun _ => ?_) | (with_reducible refine KK.go ?_) | (refine AWp.reg tabOk ?_; simp [-getElem?_pos, z0, z1, z2, hlt, hx, wm, g, g2, w1]) | (refine AWp.condK fun _ _ => ?_; simp [-getElem?_pos, z0, z1, z2, hlt, hx, wm, g, g2, w1]) | (refine AWp.ret ?_; try simp only [thenP]) | (refine AWp.skip ?_; try simp only [thenP]) | (refine AWp.exit ?_; try simp only [thenP]) | (with_reducible refine AWp.scopeK fun _ => ?_) | (refine AWp.label ?_; try simp only [thenP]) | (with_reducible refine SS.go (fun _ h => by cases h) ?_; try simp only [blockP, thenP]) | (with_reducible refine BB.go ?_; simp only [blockP, thenP, if_true, if_false, reduceIte]) | (refine AWp.draws tabOk (by kernel_rfl) (by kernel_rfl) ?_; simp [-getElem?_pos, z0, z1, z2, hlt, hx, wm, g, g2, w1]) | (with_reducible refine And.intro (show okLog _ _ = true from by kernel_rfl) ?_))
      refine LL.go ⟨k + 1, hlt, hall2⟩ [] ⟨by rfl, by simp [], by simp [or_imp, forall_and, ] <;> (try (intro _hne; simp [_hne])), by decide⟩ ?_
      simp; omega
  · obtain rfl : k = l.length := by omega
    rw [List.take_of_length_le (Nat.le_refl _)] at hall
    have hr' : r = true := hr.trans hall
    repeat (first | (with_reducible refine AWp.seqK fun _ => ?_) | (with_reducible refine AWp.blockK fun _ => ?_) | (with_reducible refine KK.go ?_) | (refine AWp.reg tabOk ?_; simp [-getElem?_pos, z0, z1, z2, hlt]) | (refine AWp.condK fun _ _ => ?_; simp [-getElem?_pos, z0, z1, z2, hlt]) | (refine AWp.ret ?_; try simp only [thenP]) | (refine AWp.skip ?_; try simp only [thenP]) | (refine AWp.exit ?_; try simp only [thenP]) | (with_reducible refine AWp.scopeK fun _ => ?_) | (refine AWp.label ?_; try simp only [thenP]) | (with_reducible refine SS.go (fun _ h => by cases h) ?_; try simp only [blockP, thenP]) | (with_reducible refine BB.go ?_; simp only [blockP, thenP, if_true, if_false, reduceIte]) | (refine AWp.draws tabOk (by kernel_rfl) (by kernel_rfl) ?_; simp [-getElem?_pos, z0, z1, z2, hlt]) | (with_reducible refine And.intro (show okLog _ _ = true from by kernel_rfl) ?_))
    (first | refine RR.ret ?_ | refine RR.normal ?_); simp [hr']
abbrev stnD (s : Stn) : Dat := .agg [iD s.angle, iD s.lo, iD s.hi, iD s.hard]
set_option maxRecDepth 100000 in
set_option maxHeartbeats 4000000 in
theorem isStation_c (s : Stn) : ACall Try.prog 52 [stnD s] (bD (stnOk s)) := by
  have ca : ACall Try.prog 63 [iD 100, .list [[iD s.angle], [iD s.lo], [iD s.hi]]] (bD (within 100 [s.angle, s.lo, s.hi])) := amountsWithin_c 100 [s.angle, s.lo, s.hi] (by omega) (by simp)
  have e : stnOk s = (within 100 [s.angle, s.lo, s.hi] && decide (s.lo ≤ s.hi) && (decide (1 ≤ s.hard) && decide (s.hard ≤ 9))) := by
    simp only [stnOk, within, List.all_cons, List.all_nil, Bool.and_true, inR, Bool.and_assoc]
    congr 4
    rw [← Bool.decide_and]
  rw [e]
  rcases g1 : within 100 [s.angle, s.lo, s.hi] <;> rw [g1] at ca
  · refine acallK tabOk Try.func52 rfl rfl (show 1 ≤ _ by decide) rfl fun _ => ?_; simp only [Try.ntmps52]
    repeat (first | (with_reducible refine AWp.seqK fun _ => ?_) | (with_reducible refine AWp.blockK fun _ => ?_) | (with_reducible refine KK.go ?_) | (refine AWp.reg tabOk ?_; simp [-getElem?_pos, z0, z1, z2, ]) | (refine AWp.condK fun _ _ => ?_; simp [-getElem?_pos, z0, z1, z2, ]) | (refine AWp.ret ?_; try simp only [thenP]) | (refine AWp.skip ?_; try simp only [thenP]) | (refine AWp.exit ?_; try simp only [thenP]) | (with_reducible refine AWp.scopeK fun _ => ?_) | (refine AWp.label ?_; try simp only [thenP]) | (with_reducible refine SS.go (fun _ h => by cases h) ?_; try simp only [blockP, thenP]) | (with_reducible refine BB.go ?_; simp only [blockP, thenP, if_true, if_false, reduceIte]) | (refine AWp.draws tabOk (by kernel_rfl) (by kernel_rfl) ?_; simp [-getElem?_pos, z0, z1, z2, ]) | (with_reducible refine And.intro (show okLog _ _ = true from by kernel_rfl) ?_))
    (first | refine Exec0.call [10] ca ?_ rfl ?_ ?_ | refine Exec.call [10] ca ?_ rfl ?_ ?_); (focus simp [-getElem?_pos, ]); (focus simp [-getElem?_pos, z0, z1, z2, ]); simp [-getElem?_pos, z0, z1, z2, ]
    repeat (first | (with_reducible refine AWp.seqK fun _ => ?_) | (with_reducible refine AWp.blockK fun _ => ?_) | (with_reducible refine KK.go ?_) | (refine AWp.reg tabOk ?_; simp [-getElem?_pos, z0, z1, z2, ]) | (refine AWp.condK fun _ _ => ?_; simp [-getElem?_pos, z0, z1, z2, ]) | (refine AWp.ret ?_; try simp only [thenP]) | (refine AWp.skip ?_; try simp only [thenP]) | (refine AWp.exit ?_; try simp only [thenP]) | (with_reducible refine AWp.scopeK fun _ => ?_) | (refine AWp.label ?_; try simp only [thenP]) | (with_reducible refine SS.go (fun _ h => by cases h) ?_; try simp only [blockP, thenP]) | (with_reducible refine BB.go ?_; simp only [blockP, thenP, if_true, if_false, reduceIte]) | (refine AWp.draws tabOk (by kernel_rfl) (by kernel_rfl) ?_; simp [-getElem?_pos, z0, z1, z2, ]) | (with_reducible refine And.intro (show okLog _ _ = true from by kernel_rfl) ?_))
    (first | refine RR.ret ?_ | refine RR.normal ?_); simp []
  by_cases g2 : s.lo ≤ s.hi
  · by_cases g3 : 1 ≤ s.hard
    · by_cases g4 : s.hard ≤ 9
      · refine acallK tabOk Try.func52 rfl rfl (show 1 ≤ _ by decide) rfl fun _ => ?_; simp only [Try.ntmps52]
        repeat (first | (with_reducible refine AWp.seqK fun _ => ?_) | (with_reducible refine AWp.blockK fun _ => ?_) | (with_reducible refine KK.go ?_) | (refine AWp.reg tabOk ?_; simp [-getElem?_pos, z0, z1, z2, g2, g3, g4]) | (refine AWp.condK fun _ _ => ?_; simp [-getElem?_pos, z0, z1, z2, g2, g3, g4]) | (refine AWp.ret ?_; try simp only [thenP]) | (refine AWp.skip ?_; try simp only [thenP]) | (refine AWp.exit ?_; try simp only [thenP]) | (with_reducible refine AWp.scopeK fun _ => ?_) | (refine AWp.label ?_; try simp only [thenP]) | (with_reducible refine SS.go (fun _ h => by cases h) ?_; try simp only [blockP, thenP]) | (with_reducible refine BB.go ?_; simp only [blockP, thenP, if_true, if_false, reduceIte]) | (refine AWp.draws tabOk (by kernel_rfl) (by kernel_rfl) ?_; simp [-getElem?_pos, z0, z1, z2, g2, g3, g4]) | (with_reducible refine And.intro (show okLog _ _ = true from by kernel_rfl) ?_))
        (first | refine Exec0.call [10] ca ?_ rfl ?_ ?_ | refine Exec.call [10] ca ?_ rfl ?_ ?_); (focus simp [-getElem?_pos, g2, g3, g4]); (focus simp [-getElem?_pos, z0, z1, z2, g2, g3, g4]); simp [-getElem?_pos, z0, z1, z2, g2, g3, g4]
        repeat (first | (with_reducible refine AWp.seqK fun _ => ?_) | (with_reducible refine AWp.blockK fun _ => ?_) | (with_reducible refine KK.go ?_) | (refine AWp.reg tabOk ?_; simp [-getElem?_pos, z0, z1, z2, g2, g3, g4]) | (refine AWp.condK fun _ _ => ?_; simp [-getElem?_pos, z0, z1, z2, g2, g3, g4]) | (refine AWp.ret ?_; try simp only [thenP]) | (refine AWp.skip ?_; try simp only [thenP]) | (refine AWp.exit ?_; try simp only [thenP]) | (with_reducible refine AWp.scopeK fun _ => ?_) | (refine AWp.label ?_; try simp only [thenP]) | (with_reducible refine SS.go (fun _ h => by cases h) ?_; try simp only [blockP, thenP]) | (with_reducible refine BB.go ?_; simp only [blockP, thenP, if_true, if_false, reduceIte]) | (refine AWp.draws tabOk (by kernel_rfl) (by kernel_rfl) ?_; simp [-getElem?_pos, z0, z1, z2, g2, g3, g4]) | (with_reducible refine And.intro (show okLog _ _ = true from by kernel_rfl) ?_))
        (first | refine RR.ret ?_ | refine RR.normal ?_); simp [g2, g3, g4]
      · refine acallK tabOk Try.func52 rfl rfl (show 1 ≤ _ by decide) rfl fun _ => ?_; simp only [Try.ntmps52]
        repeat (first | (with_reducible refine AWp.seqK fun _ => ?_) | (with_reducible refine AWp.blockK fun _ => ?_) | (with_reducible refine KK.go ?_) | (refine AWp.reg tabOk ?_; simp [-getElem?_pos, z0, z1, z2, g2, g3, g4]) | (refine AWp.condK fun _ _ => ?_; simp [-getElem?_pos, z0, z1, z2, g2, g3, g4]) | (refine AWp.ret ?_; try simp only [thenP]) | (refine AWp.skip ?_; try simp only [thenP]) | (refine AWp.exit ?_; try simp only [thenP]) | (with_reducible refine AWp.scopeK fun _ => ?_) | (refine AWp.label ?_; try simp only [thenP]) | (with_reducible refine SS.go (fun _ h => by cases h) ?_; try simp only [blockP, thenP]) | (with_reducible refine BB.go ?_; simp only [blockP, thenP, if_true, if_false, reduceIte]) | (refine AWp.draws tabOk (by kernel_rfl) (by kernel_rfl) ?_; simp [-getElem?_pos, z0, z1, z2, g2, g3, g4]) | (with_reducible refine And.intro (show okLog _ _ = true from by kernel_rfl) ?_))
        (first | refine Exec0.call [10] ca ?_ rfl ?_ ?_ | refine Exec.call [10] ca ?_ rfl ?_ ?_); (focus simp [-getElem?_pos, g2, g3, g4]); (focus simp [-getElem?_pos, z0, z1, z2, g2, g3, g4]); simp [-getElem?_pos, z0, z1, z2, g2, g3, g4]
        repeat (first | (with_reducible refine AWp.seqK fun _ => ?_) | (with_reducible refine AWp.blockK fun _ => ?_) | (with_reducible refine KK.go ?_) | (refine AWp.reg tabOk ?_; simp [-getElem?_pos, z0, z1, z2, g2, g3, g4]) | (refine AWp.condK fun _ _ => ?_; simp [-getElem?_pos, z0, z1, z2, g2, g3, g4]) | (refine AWp.ret ?_; try simp only [thenP]) | (refine AWp.skip ?_; try simp only [thenP]) | (refine AWp.exit ?_; try simp only [thenP]) | (with_reducible refine AWp.scopeK fun _ => ?_) | (refine AWp.label ?_; try simp only [thenP]) | (with_reducible refine SS.go (fun _ h => by cases h) ?_; try simp only [blockP, thenP]) | (with_reducible refine BB.go ?_; simp only [blockP, thenP, if_true, if_false, reduceIte]) | (refine AWp.draws tabOk (by kernel_rfl) (by kernel_rfl) ?_; simp [-getElem?_pos, z0, z1, z2, g2, g3, g4]) | (with_reducible refine And.intro (show okLog _ _ = true from by kernel_rfl) ?_))
        (first | refine RR.ret ?_ | refine RR.normal ?_); simp [g2, g3, g4]
    · refine acallK tabOk Try.func52 rfl rfl (show 1 ≤ _ by decide) rfl fun _ => ?_; simp only [Try.ntmps52]
      repeat (first | (with_reducible refine AWp.seqK fun _ => ?_) | (with_reducible refine AWp.blockK fun _ => ?_) | (with_reducible refine KK.go ?_) | (refine AWp.reg tabOk ?_; simp [-getElem?_pos, z0, z1, z2, g2, g3]) | (refine AWp.condK fun _ _ => ?_; simp [-getElem?_pos, z0, z1, z2, g2, g3]) | (refine AWp.ret ?_; try simp only [thenP]) | (refine AWp.skip ?_; try simp only [thenP]) | (refine AWp.exit ?_; try simp only [thenP]) | (with_reducible refine AWp.scopeK fun _ => ?_) | (refine AWp.label ?_; try simp only [thenP]) | (with_reducible refine SS.go (fun _ h => by cases h) ?_; try simp only [blockP, thenP]) | (with_reducible refine BB.go ?_; simp only [blockP, thenP, if_true, if_false, reduceIte]) | (refine AWp.draws tabOk (by kernel_rfl) (by kernel_rfl) ?_; simp [-getElem?_pos, z0, z1, z2, g2, g3]) | (with_reducible refine And.intro (show okLog _ _ = true from by kernel_rfl) ?_))
      (first | refine Exec0.call [10] ca ?_ rfl ?_ ?_ | refine Exec.call [10] ca ?_ rfl ?_ ?_); (focus simp [-getElem?_pos, g2, g3]); (focus simp [-getElem?_pos, z0, z1, z2, g2, g3]); simp [-getElem?_pos, z0, z1, z2, g2, g3]
      repeat (first | (with_reducible refine AWp.seqK fun _ => ?_) | (with_reducible refine AWp.blockK fun _ => ?_) | (with_reducible refine KK.go ?_) | (refine AWp.reg tabOk ?_; simp [-getElem?_pos, z0, z1, z2, g2, g3]) | (refine AWp.condK fun _ _ => ?_; simp [-getElem?_pos, z0, z1, z2, g2, g3]) | (refine AWp.ret ?_; try simp only [thenP]) | (refine AWp.skip ?_; try simp only [thenP]) | (refine AWp.exit ?_; try simp only [thenP]) | (with_reducible refine AWp.scopeK fun _ => ?_) | (refine AWp.label ?_; try simp only [thenP]) | (with_reducible refine SS.go (fun _ h => by cases h) ?_; try simp only [blockP, thenP]) | (with_reducible refine BB.go ?_; simp only [blockP, thenP, if_true, if_false, reduceIte]) | (refine AWp.draws tabOk (by kernel_rfl) (by kernel_rfl) ?_; simp [-getElem?_pos, z0, z1, z2, g2, g3]) | (with_reducible refine And.intro (show okLog _ _ = true from by kernel_rfl) ?_))
      (first | refine RR.ret ?_ | refine RR.normal ?_); simp [g2, g3]
  · refine acallK tabOk Try.func52 rfl rfl (show 1 ≤ _ by decide) rfl fun _ => ?_; simp only [Try.ntmps52]
    repeat (first | (with_reducible refine AWp.seqK fun _ => ?_) | (with_reducible refine AWp.blockK fun _ => ?_) | (with_reducible refine KK.go ?_) | (refine AWp.reg tabOk ?_; simp [-getElem?_pos, z0, z1, z2, g2]) | (refine AWp.condK fun _ _ => ?_; simp [-getElem?_pos, z0, z1, z2, g2]) | (refine AWp.ret ?_; try simp only [thenP]) | (refine AWp.skip ?_; try simp only [thenP]) | (refine AWp.exit ?_; try simp only [thenP]) | (with_reducible refine AWp.scopeK fun _ => ?_) | (refine AWp.label ?_; try simp only [thenP]) | (with_reducible refine SS.go (fun _ h => by cases h) ?_; try simp only [blockP, thenP]) | (with_reducible refine BB.go ?_; simp only [blockP, thenP, if_true, if_false, reduceIte]) | (refine AWp.draws tabOk (by kernel_rfl) (by kernel_rfl) ?_; simp [-getElem?_pos, z0, z1, z2, g2]) | (with_reducible refine And.intro (show okLog _ _ = true from by kernel_rfl) ?_))
    (first | refine Exec0.call [10] ca ?_ rfl ?_ ?_ | refine Exec.call [10] ca ?_ rfl ?_ ?_); (focus simp [-getElem?_pos, g2]); (focus simp [-getElem?_pos, z0, z1, z2, g2]); simp [-getElem?_pos, z0, z1, z2, g2]
    repeat (first | (with_reducible refine AWp.seqK fun _ => ?_) | (with_reducible refine AWp.blockK fun _ => ?_) | (with_reducible refine KK.go ?_) | (refine AWp.reg tabOk ?_; simp [-getElem?_pos, z0, z1, z2, g2]) | (refine AWp.condK fun _ _ => ?_; simp [-getElem?_pos, z0, z1, z2, g2]) | (refine AWp.ret ?_; try simp only [thenP]) | (refine AWp.skip ?_; try simp only [thenP]) | (refine AWp.exit ?_; try simp only [thenP]) | (with_reducible refine AWp.scopeK fun _ => ?_) | (refine AWp.label ?_; try simp only [thenP]) | (with_reducible refine SS.go (fun _ h => by cases h) ?_; try simp only [blockP, thenP]) | (with_reducible refine BB.go ?_; simp only [blockP, thenP, if_true, if_false, reduceIte]) | (refine AWp.draws tabOk (by kernel_rfl) (by kernel_rfl) ?_; simp [-getElem?_pos, z0, z1, z2, g2]) | (with_reducible refine And.intro (show okLog _ _ = true from by kernel_rfl) ?_))
    (first | refine RR.ret ?_ | refine RR.normal ?_); simp [g2]
set_option maxRecDepth 100000 in
set_option maxHeartbeats 4000000 in
theorem checkBlade_c (b : Blade) : ACall Try.prog 22 [bladeD b] (iD (bladeErr b)) := by
  by_cases h1 : b.st.length < 1
  · rw [bladeErr_6 (.inl h1)]
    have h1' : b.st.length = 0 := by omega
    have h1'' : b.st = [] := List.eq_nil_of_length_eq_zero h1'
    refine acallK tabOk Try.func22 rfl rfl (show 1 ≤ _ by decide) rfl fun _ => ?_; simp only [Try.ntmps22]
    repeat (first | (with_reducible refine AWp.seqK fun _ => ?_) | (with_reducible refine AWp.blockK fun _ => ?_) | (with_reducible refine KK.go ?_) | (refine AWp.reg tabOk ?_; simp [-getElem?_pos, z0, z1, z2, h1', h1'']) | (refine AWp.condK fun _ _ => ?_; simp [-getElem?_pos, z0, z1, z2, h1', h1'']) | (refine AWp.ret ?_; try simp only [thenP]) | (refine AWp.skip ?_; try simp only [thenP]) | (refine AWp.exit ?_; try simp only [thenP]) | (with_reducible refine AWp.scopeK fun _ => ?_) | (refine AWp.label ?_; try simp only [thenP]) | (with_reducible refine SS.go (fun _ h => by cases h) ?_; try simp only [blockP, thenP]) | (with_reducible refine BB.go ?_; simp only [blockP, thenP, if_true, if_false, reduceIte]) | (refine AWp.draws tabOk (by kernel_rfl) (by kernel_rfl) ?_; simp [-getElem?_pos, z0, z1, z2, h1', h1'']) | (with_reducible refine And.intro (show okLog _ _ = true from by kernel_rfl) ?_))
    (first | refine RR.ret ?_ | refine RR.normal ?_); simp []
  by_cases h2 : 20 < b.st.length
  · rw [bladeErr_6 (.inr h2)]
    have h1' : ¬ ((b.st.length : Int) < 1) := by omega
    have h2' : (20 : Int) < b.st.length := by omega
    refine acallK tabOk Try.func22 rfl rfl (show 1 ≤ _ by decide) rfl fun _ => ?_; simp only [Try.ntmps22]
    repeat (first | (with_reducible refine AWp.seqK fun _ => ?_) | (with_reducible refine AWp.blockK fun _ => ?_) | (with_reducible refine KK.go ?_) | (refine AWp.reg tabOk ?_; simp [-getElem?_pos, z0, z1, z2, h1', h2']) | (refine AWp.condK fun _ _ => ?_; simp [-getElem?_pos, z0, z1, z2, h1', h2']) | (refine AWp.ret ?_; try simp only [thenP]) | (refine AWp.skip ?_; try simp only [thenP]) | (refine AWp.exit ?_; try simp only [thenP]) | (with_reducible refine AWp.scopeK fun _ => ?_) | (refine AWp.label ?_; try simp only [thenP]) | (with_reducible refine SS.go (fun _ h => by cases h) ?_; try simp only [blockP, thenP]) | (with_reducible refine BB.go ?_; simp only [blockP, thenP, if_true, if_false, reduceIte]) | (refine AWp.draws tabOk (by kernel_rfl) (by kernel_rfl) ?_; simp [-getElem?_pos, z0, z1, z2, h1', h2']) | (with_reducible refine And.intro (show okLog _ _ = true from by kernel_rfl) ?_))
    (first | refine RR.ret ?_ | refine RR.normal ?_); simp []
  have hn : ¬ (b.st.length < 1 ∨ 20 < b.st.length) := by omega
  have h1' : ¬ ((b.st.length : Int) < 1) := by omega
  have h2' : ¬ (20 : Int) < b.st.length := by omega
  obtain ⟨e, he⟩ : ∃ e, e = bladeErr b := ⟨_, rfl⟩
  rw [← he]
  refine acallK tabOk Try.func22 rfl rfl (show 1 ≤ _ by decide) rfl fun _ => ?_; simp only [Try.ntmps22]
  repeat (first | (with_reducible refine AWp.seqK fun _ => ?_) | (with_reducible refine AWp.blockK fun _ => ?_) | (with_reducible refine KK.go ?_) | (refine AWp.reg tabOk ?_; simp [-getElem?_pos, z0, z1, z2, h1', h2']) | (refine AWp.condK fun _ _ => ?_; simp [-getElem?_pos, z0, z1, z2, h1', h2']) | (refine AWp.ret ?_; try simp only [thenP]) | (refine AWp.skip ?_; try simp only [thenP]) | (refine AWp.exit ?_; try simp only [thenP]) | (with_reducible refine AWp.scopeK fun _ => ?_) | (refine AWp.label ?_; try simp only [thenP]) | (with_reducible refine SS.go (fun _ h => by cases h) ?_; try simp only [blockP, thenP]) | (with_reducible refine BB.go ?_; simp only [blockP, thenP, if_true, if_false, reduceIte]) | (refine AWp.draws tabOk (by kernel_rfl) (by kernel_rfl) ?_; simp [-getElem?_pos, z0, z1, z2, h1', h2']) | (with_reducible refine And.intro (show okLog _ _ = true from by kernel_rfl) ?_))
  refine AWp.loopK (ι := { k : Nat // k ≤ b.st.length ∧ (b.st.take k).all stnOk = true }) (n := 1) (fun k => [(1, .ptr 0 0 0), (16, .d (.list (stnRows b.st))), (17, .d (iD b.st.length)), (18, .d (iD k.1))]) (fun _ => [(0, .box 24 [.d (.list (stnRows b.st)), .d (iD b.most)] false)]) (fun k => b.st.length - k.1) ⟨0, Nat.zero_le _, by simp⟩ [0] ?_ ?_
  · refine ⟨by rfl, by simp [], by simp [or_imp, forall_and, ] <;> (try (intro _hne; simp [_hne])), by decide⟩
  rintro ⟨k, hk, hall⟩ kk
  have w1 : IntKind.i64.wrap ((k : Int) + 1) = (k : Int) + 1 := wrap64_in (by omega)
  by_cases hlt : k < b.st.length
  · obtain ⟨s, hs⟩ : ∃ s, b.st[k]? = some s := ⟨_, List.getElem?_eq_getElem hlt⟩
    have ci := isStation_c s
    rcases g : stnOk s <;> rw [g] at ci
    · have e3 : e = 3 := by rw [he]; exact bladeErr_3 hn (all_not hs g)
      repeat (first | (with_reducible refine AWp.seqK fun _ => ?_) | (with_reducible refine AWp.blockK fun _ => ?_) | (with_reducible refine KK.go ?_) | (refine AWp.reg tabOk ?_; simp [-getElem?_pos, z0, z1, z2, hlt, hs]) | (refine AWp.condK fun _ _ => ?_; simp [-getElem?_pos, z0, z1, z2, hlt, hs]) | (refine AWp.ret ?_; try simp only [thenP]) | (refine AWp.skip ?_; try simp only [thenP]) | (refine AWp.exit ?_; try simp only [thenP]) | (with_reducible refine AWp.scopeK fun _ => ?_) | (refine AWp.label ?_; try simp only [thenP]) | (with_reducible refine SS.go (fun _ h => by cases h) ?_; try simp only [blockP, thenP]) | (with_reducible refine BB.go ?_; simp only [blockP, thenP, if_true, if_false, reduceIte]) | (refine AWp.draws tabOk (by kernel_rfl) (by kernel_rfl) ?_; simp [-getElem?_pos, z0, z1, z2, hlt, hs]) | (with_reducible refine And.intro (show okLog _ _ = true from by kernel_rfl) ?_))
      (first | refine Exec0.call [] ci ?_ rfl ?_ ?_ | refine Exec.call [] ci ?_ rfl ?_ ?_); (focus simp [-getElem?_pos, ]); (focus simp [-getElem?_pos, z0, z1, z2, ]); simp [-getElem?_pos, z0, z1, z2, ]
      repeat (first | (with_reducible refine AWp.seqK fun _ => ?_) | (with_reducible refine AWp.blockK fun _ => ?_) | (with_reducible refine KK.go ?_) | (refine AWp.reg tabOk ?_; simp [-getElem?_pos, z0, z1, z2, ]) | (refine AWp.condK fun _ _ => ?_; simp [-getElem?_pos, z0, z1, z2, ]) | (refine AWp.ret ?_; try simp only [thenP]) | (refine AWp.skip ?_; try simp only [thenP]) | (refine AWp.exit ?_; try simp only [thenP]) | (with_reducible refine AWp.scopeK fun _ => ?_) | (refine AWp.label ?_; try simp only [thenP]) | (with_reducible refine SS.go (fun _ h => by cases h) ?_; try simp only [blockP, thenP]) | (with_reducible refine BB.go ?_; simp only [blockP, thenP, if_true, if_false, reduceIte]) | (refine AWp.draws tabOk (by kernel_rfl) (by kernel_rfl) ?_; simp [-getElem?_pos, z0, z1, z2, ]) | (with_reducible refine And.intro (show okLog _ _ = true from by kernel_rfl) ?_))
      (first | refine RR.ret ?_ | refine RR.normal ?_); simp [e3]
    · have hall2 : (b.st.take (k + 1)).all stnOk = true := by rw [all_take hs, hall, g]; rfl
      repeat (first | (with_reducible refine AWp.seqK fun _ => ?_) | (with_reducible refine AWp.blockK fun _ => ?_) | (with_reducible refine KK.go ?_) | (refine AWp.reg tabOk ?_; simp [-getElem?_pos, z0, z1, z2, hlt, hs]) | (refine AWp.condK fun _ _ => ?_; simp [-getElem?_pos, z0, z1, z2, hlt, hs]) | (refine AWp.ret ?_; try simp only [thenP]) | (refine AWp.skip ?_; try simp only [thenP]) | (refine AWp.exit ?_; try simp only [thenP]) | (with_reducible refine AWp.scopeK fun _ => ?_) | (refine AWp.label ?_; try simp only [thenP]) | (with_reducible refine SS.go (fun _ h => by cases h) ?_; try simp only [blockP, thenP]) | (with_reducible refine BB.go ?_; simp only [blockP, thenP, if_true, if_false, reduceIte]) | (refine AWp.draws tabOk (by kernel_rfl) (by kernel_rfl) ?_; simp [-getElem?_pos, z0, z1, z2, hlt, hs]) | (with_reducible refine And.intro (show okLog _ _ = true from by kernel_rfl) ?_))
      (first | refine Exec0.call [] ci ?_ rfl ?_ ?_ | refine Exec.call [] ci ?_ rfl ?_ ?_); (focus simp [-getElem?_pos, ]); (focus simp [-getElem?_pos, z0, z1, z2, ]); simp [-getElem?_pos, z0, z1, z2, ]
      repeat (first | (with_reducible refine AWp.seqK fun _ => ?_) | (with_reducible refine AWp.blockK fun _ => ?_) | (with_reducible refine KK.go ?_) | (refine AWp.reg tabOk ?_; simp [-getElem?_pos, z0, z1, z2, w1]) | (refine AWp.condK fun _ _ => ?_; simp [-getElem?_pos, z0, z1, z2, w1]) | (refine AWp.ret ?_; try simp only [thenP]) | (refine AWp.skip ?_; try simp only [thenP]) | (refine AWp.exit ?_; try simp only [thenP]) | (with_reducible refine AWp.scopeK fun _ => ?_) | (refine AWp.label ?_; try simp only [thenP]) | (with_reducible refine SS.go (fun _ h => by cases h) ?_; try simp only [blockP, thenP]) | (with_reducible refine BB.go ?_; simp only [blockP, thenP, if_true, if_false, reduceIte]) | (refine AWp.draws tabOk (by kernel_rfl) (by kernel_rfl) ?_; simp [-getElem?_pos, z0, z1, z2, w1]) | (with_reducible refine And.intro (show okLog _ _ = true from by kernel_rfl) ?_))
      refine LL.go ⟨k + 1, hlt, hall2⟩ [0] ⟨by rfl, by simp [], by simp [or_imp, forall_and, ] <;> (try (intro _hne; simp [_hne])), by decide⟩ ?_
      simp; omega
  · obtain rfl : k = b.st.length := by omega
    rw [List.take_of_length_le (Nat.le_refl _)] at hall
    by_cases g6 : b.most < 0
    · have e2 : e = 2 := by rw [he]; exact bladeErr_2 hn hall (decide_eq_false fun h => by omega)
      repeat (first | (with_reducible refine AWp.seqK fun _ => ?_) | (with_reducible refine AWp.blockK fun _ => ?_) | (with_reducible refine KK.go ?_) | (refine AWp.reg tabOk ?_; simp [-getElem?_pos, z0, z1, z2, hlt, g6]) | (refine AWp.condK fun _ _ => ?_; simp [-getElem?_pos, z0, z1, z2, hlt, g6]) | (refine AWp.ret ?_; try simp only [thenP]) | (refine AWp.skip ?_; try simp only [thenP]) | (refine AWp.exit ?_; try simp only [thenP]) | (with_reducible refine AWp.scopeK fun _ => ?_) | (refine AWp.label ?_; try simp only [thenP]) | (with_reducible refine SS.go (fun _ h => by cases h) ?_; try simp only [blockP, thenP]) | (with_reducible refine BB.go ?_; simp only [blockP, thenP, if_true, if_false, reduceIte]) | (refine AWp.draws tabOk (by kernel_rfl) (by kernel_rfl) ?_; simp [-getElem?_pos, z0, z1, z2, hlt, g6]) | (with_reducible refine And.intro (show okLog _ _ = true from by kernel_rfl) ?_))
      (first | refine RR.ret ?_ | refine RR.normal ?_); simp [e2]
    by_cases g7 : 200 < b.most
    · have e2 : e = 2 := by rw [he]; exact bladeErr_2 hn hall (decide_eq_false fun h => by omega)
      repeat (first | (with_reducible refine AWp.seqK fun _ => ?_) | (with_reducible refine AWp.blockK fun _ => ?_) | (with_reducible refine KK.go ?_) | (refine AWp.reg tabOk ?_; simp [-getElem?_pos, z0, z1, z2, hlt, g6, g7]) | (refine AWp.condK fun _ _ => ?_; simp [-getElem?_pos, z0, z1, z2, hlt, g6, g7]) | (refine AWp.ret ?_; try simp only [thenP]) | (refine AWp.skip ?_; try simp only [thenP]) | (refine AWp.exit ?_; try simp only [thenP]) | (with_reducible refine AWp.scopeK fun _ => ?_) | (refine AWp.label ?_; try simp only [thenP]) | (with_reducible refine SS.go (fun _ h => by cases h) ?_; try simp only [blockP, thenP]) | (with_reducible refine BB.go ?_; simp only [blockP, thenP, if_true, if_false, reduceIte]) | (refine AWp.draws tabOk (by kernel_rfl) (by kernel_rfl) ?_; simp [-getElem?_pos, z0, z1, z2, hlt, g6, g7]) | (with_reducible refine And.intro (show okLog _ _ = true from by kernel_rfl) ?_))
      (first | refine RR.ret ?_ | refine RR.normal ?_); simp [e2]
    · have e0 : e = 0 := by rw [he]; exact bladeErr_0 hn hall (decide_eq_true ⟨by omega, by omega⟩)
      repeat (first | (with_reducible refine AWp.seqK fun _ => ?_) | (with_reducible refine AWp.blockK fun _ => ?_) | (with_reducible refine KK.go ?_) | (refine AWp.reg tabOk ?_; simp [-getElem?_pos, z0, z1, z2, hlt, g6, g7]) | (refine AWp.condK fun _ _ => ?_; simp [-getElem?_pos, z0, z1, z2, hlt, g6, g7]) | (refine AWp.ret ?_; try simp only [thenP]) | (refine AWp.skip ?_; try simp only [thenP]) | (refine AWp.exit ?_; try simp only [thenP]) | (with_reducible refine AWp.scopeK fun _ => ?_) | (refine AWp.label ?_; try simp only [thenP]) | (with_reducible refine SS.go (fun _ h => by cases h) ?_; try simp only [blockP, thenP]) | (with_reducible refine BB.go ?_; simp only [blockP, thenP, if_true, if_false, reduceIte]) | (refine AWp.draws tabOk (by kernel_rfl) (by kernel_rfl) ?_; simp [-getElem?_pos, z0, z1, z2, hlt, g6, g7]) | (with_reducible refine And.intro (show okLog _ _ = true from by kernel_rfl) ?_))
      (first | refine RR.ret ?_ | refine RR.normal ?_); simp [e0]
set_option maxRecDepth 100000 in
set_option maxHeartbeats 4000000 in
theorem checkNumbers_c (b : Blade) (m : Int) (l : List Int) (hm : bladeErr b = 0 → -1000000 ≤ m ∧ m ≤ 1000000) : ACall Try.prog 46 [bladeD b, iD m, intL l] (iD (blowsErr b m l)) := by
  have cb := checkBlade_c b
  by_cases h0 : bladeErr b = 0
  · have ok := bladeOk h0
    have hn2 := ok.n2
    rw [h0] at cb
    by_cases h1 : l.length = b.st.length
    · have h1' : (l.length : Int) = (b.st.length : Int) := by omega
      have ca := amountsWithin_c m l (hm h0) (by omega)
      rcases g : within m l <;> rw [g] at ca
      · rw [blowsErr_3 h0 h1 g]
        refine acallK tabOk Try.func46 rfl rfl (show 3 ≤ _ by decide) rfl fun _ => ?_; simp only [Try.ntmps46]
        repeat (first | (with_reducible refine AWp.seqK fun _ => ?_) | (with_reducible refine AWp.blockK fun _ => ?_) | (with_reducible refine KK.go ?_) | (refine AWp.reg tabOk ?_; simp [-getElem?_pos, z0, z1, z2, ]) | (refine AWp.condK fun _ _ => ?_; simp [-getElem?_pos, z0, z1, z2, ]) | (refine AWp.ret ?_; try simp only [thenP]) | (refine AWp.skip ?_; try simp only [thenP]) | (refine AWp.exit ?_; try simp only [thenP]) | (with_reducible refine AWp.scopeK fun _ => ?_) | (refine AWp.label ?_; try simp only [thenP]) | (with_reducible refine SS.go (fun _ h => by cases h) ?_; try simp only [blockP, thenP]) | (with_reducible refine BB.go ?_; simp only [blockP, thenP, if_true, if_false, reduceIte]) | (refine AWp.draws tabOk (by kernel_rfl) (by kernel_rfl) ?_; simp [-getElem?_pos, z0, z1, z2, ]) | (with_reducible refine And.intro (show okLog _ _ = true from by kernel_rfl) ?_))
        (first | refine Exec0.call [] cb ?_ rfl ?_ ?_ | refine Exec.call [] cb ?_ rfl ?_ ?_); (focus simp [-getElem?_pos, ]); (focus simp [-getElem?_pos, z0, z1, z2, ]); simp [-getElem?_pos, z0, z1, z2, ]
        repeat (first | (with_reducible refine AWp.seqK fun _ => ?_) | (with_reducible refine AWp.blockK fun _ => ?_) | (with_reducible refine KK.go ?_) | (refine AWp.reg tabOk ?_; simp [-getElem?_pos, z0, z1, z2, h1']) | (refine AWp.condK fun _ _ => ?_; simp [-getElem?_pos, z0, z1, z2, h1']) | (refine AWp.ret ?_; try simp only [thenP]) | (refine AWp.skip ?_; try simp only [thenP]) | (refine AWp.exit ?_; try simp only [thenP]) | (with_reducible refine AWp.scopeK fun _ => ?_) | (refine AWp.label ?_; try simp only [thenP]) | (with_reducible refine SS.go (fun _ h => by cases h) ?_; try simp only [blockP, thenP]) | (with_reducible refine BB.go ?_; simp only [blockP, thenP, if_true, if_false, reduceIte]) | (refine AWp.draws tabOk (by kernel_rfl) (by kernel_rfl) ?_; simp [-getElem?_pos, z0, z1, z2, h1']) | (with_reducible refine And.intro (show okLog _ _ = true from by kernel_rfl) ?_))
        (first | refine Exec0.call [] ca ?_ rfl ?_ ?_ | refine Exec.call [] ca ?_ rfl ?_ ?_); (focus simp [-getElem?_pos, ]); (focus simp [-getElem?_pos, z0, z1, z2, ]); simp [-getElem?_pos, z0, z1, z2, ]
        repeat (first | (with_reducible refine AWp.seqK fun _ => ?_) | (with_reducible refine AWp.blockK fun _ => ?_) | (with_reducible refine KK.go ?_) | (refine AWp.reg tabOk ?_; simp [-getElem?_pos, z0, z1, z2, ]) | (refine AWp.condK fun _ _ => ?_; simp [-getElem?_pos, z0, z1, z2, ]) | (refine AWp.ret ?_; try simp only [thenP]) | (refine AWp.skip ?_; try simp only [thenP]) | (refine AWp.exit ?_; try simp only [thenP]) | (with_reducible refine AWp.scopeK fun _ => ?_) | (refine AWp.label ?_; try simp only [thenP]) | (with_reducible refine SS.go (fun _ h => by cases h) ?_; try simp only [blockP, thenP]) | (with_reducible refine BB.go ?_; simp only [blockP, thenP, if_true, if_false, reduceIte]) | (refine AWp.draws tabOk (by kernel_rfl) (by kernel_rfl) ?_; simp [-getElem?_pos, z0, z1, z2, ]) | (with_reducible refine And.intro (show okLog _ _ = true from by kernel_rfl) ?_))
        (first | refine RR.ret ?_ | refine RR.normal ?_); simp []
      · rw [blowsErr_0 h0 h1 g]
        refine acallK tabOk Try.func46 rfl rfl (show 3 ≤ _ by decide) rfl fun _ => ?_; simp only [Try.ntmps46]
        repeat (first | (with_reducible refine AWp.seqK fun _ => ?_) | (with_reducible refine AWp.blockK fun _ => ?_) | (with_reducible refine KK.go ?_) | (refine AWp.reg tabOk ?_; simp [-getElem?_pos, z0, z1, z2, ]) | (refine AWp.condK fun _ _ => ?_; simp [-getElem?_pos, z0, z1, z2, ]) | (refine AWp.ret ?_; try simp only [thenP]) | (refine AWp.skip ?_; try simp only [thenP]) | (refine AWp.exit ?_; try simp only [thenP]) | (with_reducible refine AWp.scopeK fun _ => ?_) | (refine AWp.label ?_; try simp only [thenP]) | (with_reducible refine SS.go (fun _ h => by cases h) ?_; try simp only [blockP, thenP]) | (with_reducible refine BB.go ?_; simp only [blockP, thenP, if_true, if_false, reduceIte]) | (refine AWp.draws tabOk (by kernel_rfl) (by kernel_rfl) ?_; simp [-getElem?_pos, z0, z1, z2, ]) | (with_reducible refine And.intro (show okLog _ _ = true from by kernel_rfl) ?_))
        (first | refine Exec0.call [] cb ?_ rfl ?_ ?_ | refine Exec.call [] cb ?_ rfl ?_ ?_); (focus simp [-getElem?_pos, ]); (focus simp [-getElem?_pos, z0, z1, z2, ]); simp [-getElem?_pos, z0, z1, z2, ]
        repeat (first | (with_reducible refine AWp.seqK fun _ => ?_) | (with_reducible refine AWp.blockK fun _ => ?_) | (with_reducible refine KK.go ?_) | (refine AWp.reg tabOk ?_; simp [-getElem?_pos, z0, z1, z2, h1']) | (refine AWp.condK fun _ _ => ?_; simp [-getElem?_pos, z0, z1, z2, h1']) | (refine AWp.ret ?_; try simp only [thenP]) | (refine AWp.skip ?_; try simp only [thenP]) | (refine AWp.exit ?_; try simp only [thenP]) | (with_reducible refine AWp.scopeK fun _ => ?_) | (refine AWp.label ?_; try simp only [thenP]) | (with_reducible refine SS.go (fun _ h => by cases h) ?_; try simp only [blockP, thenP]) | (with_reducible refine BB.go ?_; simp only [blockP, thenP, if_true, if_false, reduceIte]) | (refine AWp.draws tabOk (by kernel_rfl) (by kernel_rfl) ?_; simp [-getElem?_pos, z0, z1, z2, h1']) | (with_reducible refine And.intro (show okLog _ _ = true from by kernel_rfl) ?_))
        (first | refine Exec0.call [] ca ?_ rfl ?_ ?_ | refine Exec.call [] ca ?_ rfl ?_ ?_); (focus simp [-getElem?_pos, ]); (focus simp [-getElem?_pos, z0, z1, z2, ]); simp [-getElem?_pos, z0, z1, z2, ]
        repeat (first | (with_reducible refine AWp.seqK fun _ => ?_) | (with_reducible refine AWp.blockK fun _ => ?_) | (with_reducible refine KK.go ?_) | (refine AWp.reg tabOk ?_; simp [-getElem?_pos, z0, z1, z2, ]) | (refine AWp.condK fun _ _ => ?_; simp [-getElem?_pos, z0, z1, z2, ]) | (refine AWp.ret ?_; try simp only [thenP]) | (refine AWp.skip ?_; try simp only [thenP]) | (refine AWp.exit ?_; try simp only [thenP]) | (with_reducible refine AWp.scopeK fun _ => ?_) | (refine AWp.label ?_; try simp only [thenP]) | (with_reducible refine SS.go (fun _ h => by cases h) ?_; try simp only [blockP, thenP]) | (with_reducible refine BB.go ?_; simp only [blockP, thenP, if_true, if_false, reduceIte]) | (refine AWp.draws tabOk (by kernel_rfl) (by kernel_rfl) ?_; simp [-getElem?_pos, z0, z1, z2, ]) | (with_reducible refine And.intro (show okLog _ _ = true from by kernel_rfl) ?_))
        (first | refine RR.ret ?_ | refine RR.normal ?_); simp []
    · have h1' : ¬ (l.length : Int) = (b.st.length : Int) := by omega
      rw [blowsErr_15 h0 h1]
      refine acallK tabOk Try.func46 rfl rfl (show 3 ≤ _ by decide) rfl fun _ => ?_; simp only [Try.ntmps46]
      repeat (first | (with_reducible refine AWp.seqK fun _ => ?_) | (with_reducible refine AWp.blockK fun _ => ?_) | (with_reducible refine KK.go ?_) | (refine AWp.reg tabOk ?_; simp [-getElem?_pos, z0, z1, z2, ]) | (refine AWp.condK fun _ _ => ?_; simp [-getElem?_pos, z0, z1, z2, ]) | (refine AWp.ret ?_; try simp only [thenP]) | (refine AWp.skip ?_; try simp only [thenP]) | (refine AWp.exit ?_; try simp only [thenP]) | (with_reducible refine AWp.scopeK fun _ => ?_) | (refine AWp.label ?_; try simp only [thenP]) | (with_reducible refine SS.go (fun _ h => by cases h) ?_; try simp only [blockP, thenP]) | (with_reducible refine BB.go ?_; simp only [blockP, thenP, if_true, if_false, reduceIte]) | (refine AWp.draws tabOk (by kernel_rfl) (by kernel_rfl) ?_; simp [-getElem?_pos, z0, z1, z2, ]) | (with_reducible refine And.intro (show okLog _ _ = true from by kernel_rfl) ?_))
      (first | refine Exec0.call [] cb ?_ rfl ?_ ?_ | refine Exec.call [] cb ?_ rfl ?_ ?_); (focus simp [-getElem?_pos, ]); (focus simp [-getElem?_pos, z0, z1, z2, ]); simp [-getElem?_pos, z0, z1, z2, ]
      repeat (first | (with_reducible refine AWp.seqK fun _ => ?_) | (with_reducible refine AWp.blockK fun _ => ?_) | (with_reducible refine KK.go ?_) | (refine AWp.reg tabOk ?_; simp [-getElem?_pos, z0, z1, z2, h1, h1']) | (refine AWp.condK fun _ _ => ?_; simp [-getElem?_pos, z0, z1, z2, h1, h1']) | (refine AWp.ret ?_; try simp only [thenP]) | (refine AWp.skip ?_; try simp only [thenP]) | (refine AWp.exit ?_; try simp only [thenP]) | (with_reducible refine AWp.scopeK fun _ => ?_) | (refine AWp.label ?_; try simp only [thenP]) | (with_reducible refine SS.go (fun _ h => by cases h) ?_; try simp only [blockP, thenP]) | (with_reducible refine BB.go ?_; simp only [blockP, thenP, if_true, if_false, reduceIte]) | (refine AWp.draws tabOk (by kernel_rfl) (by kernel_rfl) ?_; simp [-getElem?_pos, z0, z1, z2, h1, h1']) | (with_reducible refine And.intro (show okLog _ _ = true from by kernel_rfl) ?_))
      (first | refine RR.ret ?_ | refine RR.normal ?_); simp []
  · rw [blowsErr_1 h0]
    generalize bladeErr b = e at *
    refine acallK tabOk Try.func46 rfl rfl (show 3 ≤ _ by decide) rfl fun _ => ?_; simp only [Try.ntmps46]
    repeat (first | (with_reducible refine AWp.seqK fun _ => ?_) | (with_reducible refine AWp.blockK fun _ => ?_) | (with_reducible refine KK.go ?_) | (refine AWp.reg tabOk ?_; simp [-getElem?_pos, z0, z1, z2, ]) | (refine AWp.condK fun _ _ => ?_; simp [-getElem?_pos, z0, z1, z2, ]) | (refine AWp.ret ?_; try simp only [thenP]) | (refine AWp.skip ?_; try simp only [thenP]) | (refine AWp.exit ?_; try simp only [thenP]) | (with_reducible refine AWp.scopeK fun _ => ?_) | (refine AWp.label ?_; try simp only [thenP]) | (with_reducible refine SS.go (fun _ h => by cases h) ?_; try simp only [blockP, thenP]) | (with_reducible refine BB.go ?_; simp only [blockP, thenP, if_true, if_false, reduceIte]) | (refine AWp.draws tabOk (by kernel_rfl) (by kernel_rfl) ?_; simp [-getElem?_pos, z0, z1, z2, ]) | (with_reducible refine And.intro (show okLog _ _ = true from by kernel_rfl) ?_))
    (first | refine Exec0.call [] cb ?_ rfl ?_ ?_ | refine Exec.call [] cb ?_ rfl ?_ ?_); (focus simp [-getElem?_pos, ]); (focus simp [-getElem?_pos, z0, z1, z2, ]); simp [-getElem?_pos, z0, z1, z2, ]
    repeat (first | (with_reducible refine AWp.seqK fun _ => ?_) | (with_reducible refine AWp.blockK fun _ => ?_) | (with_reducible refine KK.go ?_) | (refine AWp.reg tabOk ?_; simp [-getElem?_pos, z0, z1, z2, h0]) | (refine AWp.condK fun _ _ => ?_; simp [-getElem?_pos, z0, z1, z2, h0]) | (refine AWp.ret ?_; try simp only [thenP]) | (refine AWp.skip ?_; try simp only [thenP]) | (refine AWp.exit ?_; try simp only [thenP]) | (with_reducible refine AWp.scopeK fun _ => ?_) | (refine AWp.label ?_; try simp only [thenP]) | (with_reducible refine SS.go (fun _ h => by cases h) ?_; try simp only [blockP, thenP]) | (with_reducible refine BB.go ?_; simp only [blockP, thenP, if_true, if_false, reduceIte]) | (refine AWp.draws tabOk (by kernel_rfl) (by kernel_rfl) ?_; simp [-getElem?_pos, z0, z1, z2, h0]) | (with_reducible refine And.intro (show okLog _ _ = true from by kernel_rfl) ?_))
    (first | refine RR.ret ?_ | refine RR.normal ?_); simp []
end Go.Proofs.Ytnhhlmikkmjenaa.Eng

/-
  Layer 2: package warp, how a blade is turned after blows.
-/
namespace Go.Proofs.Ytnhhlmikkmjenaa.Eng
open Go.RowKit

def fillTo (b : Blade) (l : List Int) (n k : Nat) : List Int := turnTo b l k ++ List.replicate (n - k) 0
theorem fillTo_len (b : Blade) (l : List Int) {n k : Nat} (h : k ≤ n) : (fillTo b l n k).length = n := by simp [fillTo, turnTo_len]; omega
theorem fillTo_zero (b : Blade) (l : List Int) (n : Nat) : fillTo b l n 0 = List.replicate n 0 := by simp [fillTo, turnTo]
theorem fillTo_full (b : Blade) (l : List Int) (n : Nat) : fillTo b l n n = turnTo b l n := by simp [fillTo]
theorem fillTo_set {b : Blade} {l : List Int} {n k : Nat} {s : Stn} (hs : b.st[k]? = some s) (h : k < n) : (fillTo b l n k).set k (s.angle + sumTo l (k + 1)) = fillTo b l n (k + 1) := by
  unfold fillTo
  rw [turnTo_succ hs, List.set_append_right _ _ (by rw [turnTo_len]; exact Nat.le_refl _), turnTo_len, Nat.sub_self, show n - k = (n - (k + 1)) + 1 by omega, List.replicate_succ, List.set_cons_zero, List.append_assoc]
  rfl
theorem fillTo_at (b : Blade) (l : List Int) {n k : Nat} (h : k < n) : (fillTo b l n k)[k]? = some 0 := by
  unfold fillTo
  rw [List.getElem?_append_right (by rw [turnTo_len]; exact Nat.le_refl _), turnTo_len, Nat.sub_self, List.getElem?_replicate, if_pos (by omega)]
theorem iRows_rep (n : Nat) (x : Int) : iRows (List.replicate n x) = List.replicate n [iD x] := by simp [iRows]
set_option maxRecDepth 100000 in
set_option maxHeartbeats 4000000 in
theorem after_c (b : Blade) (l : List Int) : ACall Try.prog 16 [bladeD b, intL l] (.tup [intL (afterL b l), iD (blowsErr b b.most l)]) := by
  have cb := checkNumbers_c b b.most l (fun h => by have := (bladeOk h).m0; have := (bladeOk h).m1; omega)
  by_cases h0 : blowsErr b b.most l = 0
  · have hb := blowsOk h0
    have ok := hb.ok
    have hlen := hb.len
    have hn2 := ok.n2
    have hr : afterL b l = turnTo b l l.length := by rw [afterL, h0, if_pos rfl]
    rw [hr, h0]
    rw [h0] at cb
    have b0 : fitsB l.length 8 = true := fitsB_small (by omega) (by omega)
    have hbd : ∀ k, k ≤ l.length → -4000 ≤ sumTo l k ∧ sumTo l k ≤ 4000 := fun k hk => by
      have := sumTo_bound ok.m0 hb.all k
      have h4 : b.most * (k : Int) ≤ 200 * 20 := Int.mul_le_mul ok.m1 (by omega) (by omega) (by omega)
      omega
    refine acallK tabOk Try.func16 rfl rfl (show 2 ≤ _ by decide) rfl fun _ => ?_; simp only [Try.ntmps16]
    repeat (first | (with_reducible refine AWp.seqK fun _ => ?_) | (with_reducible refine AWp.blockK fun _ => ?_) | (with_reducible refine KK.go ?_) | (refine AWp.reg tabOk ?_; simp [-getElem?_pos, z0, z1, z2, ]) | (refine AWp.condK fun _ _ => ?_; simp [-getElem?_pos, z0, z1, z2, ]) | (refine AWp.ret ?_; try simp only [thenP]) | (refine AWp.skip ?_; try simp only [thenP]) | (refine AWp.exit ?_; try simp only [thenP]) | (with_reducible refine AWp.scopeK fun _ => ?_) | (refine AWp.label ?_; try simp only [thenP]) | (with_reducible refine SS.go (fun _ h => by cases h) ?_; try simp only [blockP, thenP]) | (with_reducible refine BB.go ?_; simp only [blockP, thenP, if_true, if_false, reduceIte]) | (refine AWp.draws tabOk (by kernel_rfl) (by kernel_rfl) ?_; simp [-getElem?_pos, z0, z1, z2, ]) | (with_reducible refine And.intro (show okLog _ _ = true from by kernel_rfl) ?_))
    (first | refine Exec0.call [] cb ?_ rfl ?_ ?_ | refine Exec.call [] cb ?_ rfl ?_ ?_); (focus simp [-getElem?_pos, ]); (focus simp [-getElem?_pos, z0, z1, z2, ]); simp [-getElem?_pos, z0, z1, z2, ]
    have m1 : 8 * (l.length : Int) ≤ 140737488355328 := by omega
    have m2 : (l.length : Int) ≤ 9223372036854775807 := by omega
    repeat (first | (with_reducible refine AWp.seqK fun _ => ?_) | (with_reducible refine AWp.blockK fun _ => ?_) | (with_reducible refine KK.go ?_) | (refine AWp.reg tabOk ?_; simp [-getElem?_pos, z0, z1, z2, m1, m2]) | (refine AWp.condK fun _ _ => ?_; simp [-getElem?_pos, z0, z1, z2, m1, m2]) | (refine AWp.ret ?_; try simp only [thenP]) | (refine AWp.skip ?_; try simp only [thenP]) | (refine AWp.exit ?_; try simp only [thenP]) | (with_reducible refine AWp.scopeK fun _ => ?_) | (refine AWp.label ?_; try simp only [thenP]) | (with_reducible refine SS.go (fun _ h => by cases h) ?_; try simp only [blockP, thenP]) | (with_reducible refine BB.go ?_; simp only [blockP, thenP, if_true, if_false, reduceIte]) | (refine AWp.draws tabOk (by kernel_rfl) (by kernel_rfl) ?_; simp [-getElem?_pos, z0, z1, z2, m1, m2]) | (with_reducible refine And.intro (show okLog _ _ = true from by kernel_rfl) ?_))
    refine AWp.loopK (ι := { k : Nat // k ≤ l.length }) (n := 2) (fun k => [(2, .ptr 0 0 0), (7, .own 1 l.length 1), (8, .d (iD (sumTo l k.1))), (22, .d (intL l)), (23, .d (iD l.length)), (24, .d (iD k.1))]) (fun k => [(0, .box 24 [.d (.list (stnRows b.st)), .d (iD b.most)] false), (1, .row 2 1 (iRows (fillTo b l l.length k.1)) false)]) (fun k => l.length - k.1) ⟨0, Nat.zero_le _⟩ [0, 13] ?_ ?_
    · refine ⟨by rfl, by simp [sumTo, fillTo_zero, iRows_rep], by simp [or_imp, forall_and, sumTo, fillTo_zero, iRows_rep] <;> (try (intro _hne; simp [_hne])), by decide⟩
    rintro ⟨k, hk⟩ kk
    have w1 : IntKind.i64.wrap ((k : Int) + 1) = (k : Int) + 1 := wrap64_in (by omega)
    by_cases hlt : k < l.length
    · obtain ⟨x, hx⟩ : ∃ x, l[k]? = some x := ⟨_, List.getElem?_eq_getElem hlt⟩
      obtain ⟨s, hs⟩ : ∃ s, b.st[k]? = some s := ⟨_, List.getElem?_eq_getElem (by omega)⟩
      have hsb := ok.stn hs
      have h1 := hbd (k + 1) (by omega)
      have w2 : IntKind.i64.wrap (sumTo l k + x) = sumTo l (k + 1) := by rw [sumTo_succ hx] at h1 ⊢; exact wrap64_in (by omega)
      have w3 : IntKind.i64.wrap (s.angle + sumTo l (k + 1)) = s.angle + sumTo l (k + 1) := wrap64_in (by omega)
      have hset := fillTo_set (l := l) hs hlt
      have hat := fillTo_at b l hlt
      generalize hv : sumTo l (k + 1) = v at *
      repeat (first | (with_reducible refine AWp.seqK fun _ => ?_) | (with_reducible refine AWp.blockK fun _ => ?_) | (with_reducible refine KK.go ?_) | (refine AWp.reg tabOk ?_; simp [-getElem?_pos, z0, z1, z2, hlt, hx, hs, w1, w2, w3, hat, hset]) | (refine AWp.condK fun _ _ => ?_; simp [-getElem?_pos, z0, z1, z2, hlt, hx, hs, w1, w2, w3, hat, hset]) | (refine AWp.ret ?_; try simp only [thenP]) | (refine AWp.skip ?_; try simp only [thenP]) | (refine AWp.exit ?_; try simp only [thenP]) | (with_reducible refine AWp.scopeK fun _ => ?_) | (refine AWp.label ?_; try simp only [thenP]) | (with_reducible refine SS.go (fun _ h => by cases h) ?_; try simp only [blockP, thenP]) | (with_reducible refine BB.go ?_; simp only [blockP, thenP, if_true, if_false, reduceIte]) | (refine AWp.draws tabOk (by kernel_rfl) (by kernel_rfl) ?_; simp [-getElem?_pos, z0, z1, z2, hlt, hx, hs, w1, w2, w3, hat, hset]) | (with_reducible refine And.intro (show okLog _ _ = true from by kernel_rfl) ?_))
      refine LL.go ⟨k + 1, hlt⟩ [0, 1] ⟨by rfl, by simp [hv], by simp [or_imp, forall_and, hv] <;> (try (intro _hne; simp [_hne])), by decide⟩ ?_
      simp; omega
    · obtain rfl : k = l.length := by omega
      rw [fillTo_full]
      have hn1 := ok.n1
      repeat (first | (with_reducible refine AWp.seqK fun _ => ?_) | (with_reducible refine AWp.blockK fun _ => ?_) | (with_reducible refine KK.go ?_) | (refine AWp.reg tabOk ?_; simp [-getElem?_pos, z0, z1, z2, hlt]) | (refine AWp.condK fun _ _ => ?_; simp [-getElem?_pos, z0, z1, z2, hlt]) | (refine AWp.ret ?_; try simp only [thenP]) | (refine AWp.skip ?_; try simp only [thenP]) | (refine AWp.exit ?_; try simp only [thenP]) | (with_reducible refine AWp.scopeK fun _ => ?_) | (refine AWp.label ?_; try simp only [thenP]) | (with_reducible refine SS.go (fun _ h => by cases h) ?_; try simp only [blockP, thenP]) | (with_reducible refine BB.go ?_; simp only [blockP, thenP, if_true, if_false, reduceIte]) | (refine AWp.draws tabOk (by kernel_rfl) (by kernel_rfl) ?_; simp [-getElem?_pos, z0, z1, z2, hlt]) | (with_reducible refine And.intro (show okLog _ _ = true from by kernel_rfl) ?_))
      (first | refine RR.ret ?_ | refine RR.normal ?_); simp [turnTo_len]
  · have hr : afterL b l = [] := if_neg h0
    rw [hr]
    generalize blowsErr b b.most l = e at *
    refine acallK tabOk Try.func16 rfl rfl (show 2 ≤ _ by decide) rfl fun _ => ?_; simp only [Try.ntmps16]
    repeat (first | (with_reducible refine AWp.seqK fun _ => ?_) | (with_reducible refine AWp.blockK fun _ => ?_) | (with_reducible refine KK.go ?_) | (refine AWp.reg tabOk ?_; simp [-getElem?_pos, z0, z1, z2, ]) | (refine AWp.condK fun _ _ => ?_; simp [-getElem?_pos, z0, z1, z2, ]) | (refine AWp.ret ?_; try simp only [thenP]) | (refine AWp.skip ?_; try simp only [thenP]) | (refine AWp.exit ?_; try simp only [thenP]) | (with_reducible refine AWp.scopeK fun _ => ?_) | (refine AWp.label ?_; try simp only [thenP]) | (with_reducible refine SS.go (fun _ h => by cases h) ?_; try simp only [blockP, thenP]) | (with_reducible refine BB.go ?_; simp only [blockP, thenP, if_true, if_false, reduceIte]) | (refine AWp.draws tabOk (by kernel_rfl) (by kernel_rfl) ?_; simp [-getElem?_pos, z0, z1, z2, ]) | (with_reducible refine And.intro (show okLog _ _ = true from by kernel_rfl) ?_))
    (first | refine Exec0.call [] cb ?_ rfl ?_ ?_ | refine Exec.call [] cb ?_ rfl ?_ ?_); (focus simp [-getElem?_pos, ]); (focus simp [-getElem?_pos, z0, z1, z2, ]); simp [-getElem?_pos, z0, z1, z2, ]
    repeat (first | (with_reducible refine AWp.seqK fun _ => ?_) | (with_reducible refine AWp.blockK fun _ => ?_) | (with_reducible refine KK.go ?_) | (refine AWp.reg tabOk ?_; simp [-getElem?_pos, z0, z1, z2, h0]) | (refine AWp.condK fun _ _ => ?_; simp [-getElem?_pos, z0, z1, z2, h0]) | (refine AWp.ret ?_; try simp only [thenP]) | (refine AWp.skip ?_; try simp only [thenP]) | (refine AWp.exit ?_; try simp only [thenP]) | (with_reducible refine AWp.scopeK fun _ => ?_) | (refine AWp.label ?_; try simp only [thenP]) | (with_reducible refine SS.go (fun _ h => by cases h) ?_; try simp only [blockP, thenP]) | (with_reducible refine BB.go ?_; simp only [blockP, thenP, if_true, if_false, reduceIte]) | (refine AWp.draws tabOk (by kernel_rfl) (by kernel_rfl) ?_; simp [-getElem?_pos, z0, z1, z2, h0]) | (with_reducible refine And.intro (show okLog _ _ = true from by kernel_rfl) ?_))
    (first | refine RR.ret ?_ | refine RR.normal ?_); simp []
end Go.Proofs.Ytnhhlmikkmjenaa.Eng

/-
  Layer 2: package warp, the bench.
-/
namespace Go.Proofs.Ytnhhlmikkmjenaa.Eng
open Go.RowKit

def rgRows (l : List (Int × Int)) : List (List Dat) := l.map fun r => [iD r.1, iD r.2]
@[simp] theorem rgRows_len (l : List (Int × Int)) : (rgRows l).length = l.length := List.length_map _
@[simp] theorem rgRows_get (l : List (Int × Int)) (i : Nat) : (rgRows l)[i]? = (l[i]?).map fun r => [iD r.1, iD r.2] := List.getElem?_map
@[simp] theorem rgRows_app (l m : List (Int × Int)) : rgRows (l ++ m) = rgRows l ++ rgRows m := List.map_append
@[simp] theorem rgRows_mem (l : List (Int × Int)) (p : List Dat → Prop) : (∀ r ∈ rgRows l, p r) ↔ ∀ n ∈ l, p [iD n.1, iD n.2] := by unfold rgRows; exact List.forall_mem_map
@[simp] theorem rgRows_cons (x : Int × Int) (l : List (Int × Int)) : rgRows (x :: l) = [iD x.1, iD x.2] :: rgRows l := rfl
@[simp] theorem rgRows_nil : rgRows [] = [] := rfl
set_option maxRecDepth 100000 in
set_option maxHeartbeats 4000000 in
theorem grownRange_c (l : List (Int × Int)) (x y : Int) (hl : l.length ≤ 1000) : ACall Try.prog 69 [.list (rgRows l), rgD x y] (.list (rgRows (l ++ [(x, y)]))) := by
  have b1 : fitsB (l.length + 1) 16 = true := fitsB_small (by omega) (by omega)
  refine acallK tabOk Try.func69 rfl rfl (show 2 ≤ _ by decide) rfl fun _ => ?_; simp only [Try.ntmps69]
  repeat (first | (with_reducible refine AWp.seqK fun _ => ?_) | (with_reducible refine AWp.blockK fun _ => ?_) | (with_reducible refine KK.go ?_) | (refine AWp.reg tabOk ?_; simp [-getElem?_pos, z0, z1, z2, b1]) | (refine AWp.condK fun _ _ => ?_; simp [-getElem?_pos, z0, z1, z2, b1]) | (refine AWp.ret ?_; try simp only [thenP]) | (refine AWp.skip ?_; try simp only [thenP]) | (refine AWp.exit ?_; try simp only [thenP]) | (with_reducible refine AWp.scopeK fun _ => ?_) | (refine AWp.label ?_; try simp only [thenP]) | (with_reducible refine SS.go (fun _ h => by cases h) ?_; try simp only [blockP, thenP]) | (with_reducible refine BB.go ?_; simp only [blockP, thenP, if_true, if_false, reduceIte]) | (refine AWp.draws tabOk (by kernel_rfl) (by kernel_rfl) ?_; simp [-getElem?_pos, z0, z1, z2, b1]) | (with_reducible refine And.intro (show okLog _ _ = true from by kernel_rfl) ?_))
  (first | refine RR.ret ?_ | refine RR.normal ?_); simp []
/-- The tubes of the first stations, as a list that has grown from nil. -/
def tubesC : List (Int × Int) → SV
  | [] => .nilS
  | x :: l => .d (.list (rgRows (x :: l)))
theorem tubesC_nil : tubesC [] = .nilS := rfl
theorem tubesC_cons (x : Int × Int) (l : List (Int × Int)) : tubesC (x :: l) = .d (.list (rgRows (x :: l))) := rfl
@[simp] theorem renC_tubesC (n : Nat) (σ : Nat → Nat) (l : List (Int × Int)) : renC n σ (tubesC l) = some (tubesC l) := by cases l <;> rfl
def tubesN (b : Blade) (k : Nat) : List (Int × Int) := (b.st.take k).map tubeS
theorem tubesN_succ {b : Blade} {k : Nat} {s : Stn} (hs : b.st[k]? = some s) : tubesN b (k + 1) = tubesN b k ++ [tubeS s] := by
  obtain ⟨hk, rfl⟩ := List.getElem?_eq_some_iff.1 hs
  unfold tubesN
  rw [List.take_succ_eq_append_getElem hk, List.map_append]
  rfl
theorem tubesN_len (b : Blade) {k : Nat} (h : k ≤ b.st.length) : (tubesN b k).length = k := by simp [tubesN]; omega
theorem tubesC_app (l : List (Int × Int)) (x : Int × Int) : tubesC (l ++ [x]) = .d (.list (rgRows (l ++ [x]))) := by cases l <;> rfl
attribute [irreducible] tubesC
/-- The variable of a bench. -/
abbrev benchV (b : Blade) (tubes : SV) (allowed : SV) (rests : SV) : Blk := .box 88 [.d (.list (stnRows b.st)), .d (iD b.most), tubes, allowed, rests] false
abbrev bearsF (i : Nat) : SV := .fn 65 [.ptr i 0 0] []
set_option maxRecDepth 100000 in
set_option maxHeartbeats 4000000 in
theorem newBench_c {b : Blade} (ok : BladeOk b) : MCall Try.prog 48 [.d (bladeD b)] [] 0 (.ptr 0 0 0) [(0, benchV b (.d (.list (rgRows (tubesN b b.st.length)))) (bearsF 0) .nilS)] := by
  have hn1 := ok.n1
  have hn2 := ok.n2
  refine mcallO tabOk Try.func48 Try.ntmps48 rfl rfl (show 1 ≤ _ by decide) rfl rfl (by simp [startM, ghosts, List.range_succ]; rfl) fun _ => ?_
  repeat (first | (with_reducible refine AWp.seqK fun _ => ?_) | (with_reducible refine AWp.blockK fun _ => ?_) | (with_reducible refine KK.go ?_) | (refine AWp.reg tabOk ?_; simp [-getElem?_pos, z0, z1, z2, ]) | (refine AWp.condK fun _ _ => ?_; simp [-getElem?_pos, z0, z1, z2, ]) | (refine AWp.ret ?_; try simp only [thenP]) | (refine AWp.skip ?_; try simp only [thenP]) | (refine AWp.exit ?_; try simp only [thenP]) | (with_reducible refine AWp.scopeK fun _ => ?_) | (refine AWp.label ?_; try simp only [thenP]) | (with_reducible refine SS.go (fun _ h => by cases h) ?_; try simp only [blockP, thenP]) | (with_reducible refine BB.go ?_; simp only [blockP, thenP, if_true, if_false, reduceIte]) | (refine AWp.draws tabOk (by kernel_rfl) (by kernel_rfl) ?_; simp [-getElem?_pos, z0, z1, z2, ]) | (with_reducible refine And.intro (show okLog _ _ = true from by kernel_rfl) ?_))
  refine AWp.loopK (ι := { k : Nat // k ≤ b.st.length }) (n := 1) (fun k => [(3, .ptr 0 0 0), (13, .d (.list (stnRows b.st))), (14, .d (iD b.st.length)), (15, .d (iD k.1))]) (fun k => [(0, benchV b (tubesC (tubesN b k.1)) (.d (.val .nilFunc)) .nilS)]) (fun k => b.st.length - k.1) ⟨0, Nat.zero_le _⟩ [4] ?_ ?_
  · refine ⟨by rfl, by simp [tubesN, tubesC_nil], by simp [or_imp, forall_and, tubesN, tubesC_nil] <;> (try (intro _hne; simp [_hne])), by decide⟩
  rintro ⟨k, hk⟩ kk
  have w1 : IntKind.i64.wrap ((k : Int) + 1) = (k : Int) + 1 := wrap64_in (by omega)
  have htl := tubesN_len b hk
  by_cases hlt : k < b.st.length
  · obtain ⟨s, hs⟩ : ∃ s, b.st[k]? = some s := ⟨_, List.getElem?_eq_getElem hlt⟩
    have hsb := ok.stn hs
    have w2 : IntKind.i64.wrap (s.lo - s.angle) = s.lo - s.angle := wrap64_in (by omega)
    have w3 : IntKind.i64.wrap (s.hi - s.angle) = s.hi - s.angle := wrap64_in (by omega)
    have hts := tubesN_succ hs
    have cg := grownRange_c (tubesN b k) (s.lo - s.angle) (s.hi - s.angle) (by omega)
    have hta : tubesC (tubesN b (k + 1)) = .d (.list (rgRows (tubesN b k ++ [(s.lo - s.angle, s.hi - s.angle)]))) := by rw [hts]; exact tubesC_app _ _
    generalize tubesN b k = tl at *
    cases tl with
    | nil =>
      repeat (first | (with_reducible refine AWp.seqK fun _ => ?_) | (with_reducible refine AWp.blockK fun _ => ?_) | (with_reducible refine KK.go ?_) | (refine AWp.reg tabOk ?_; simp [-getElem?_pos, z0, z1, z2, hlt, hs, w2, w3, tubesC_nil, tubesC_cons]) | (refine AWp.condK fun _ _ => ?_; simp [-getElem?_pos, z0, z1, z2, hlt, hs, w2, w3, tubesC_nil, tubesC_cons]) | (refine AWp.ret ?_; try simp only [thenP]) | (refine AWp.skip ?_; try simp only [thenP]) | (refine AWp.exit ?_; try simp only [thenP]) | (with_reducible refine AWp.scopeK fun _ => ?_) | (refine AWp.label ?_; try simp only [thenP]) | (with_reducible refine SS.go (fun _ h => by cases h) ?_; try simp only [blockP, thenP]) | (with_reducible refine BB.go ?_; simp only [blockP, thenP, if_true, if_false, reduceIte]) | (refine AWp.draws tabOk (by kernel_rfl) (by kernel_rfl) ?_; simp [-getElem?_pos, z0, z1, z2, hlt, hs, w2, w3, tubesC_nil, tubesC_cons]) | (with_reducible refine And.intro (show okLog _ _ = true from by kernel_rfl) ?_))
      (first | refine Exec0.call [] cg ?_ rfl ?_ ?_ | refine Exec.call [] cg ?_ rfl ?_ ?_); (focus simp [-getElem?_pos, ]); (focus simp [-getElem?_pos, z0, z1, z2, ]); simp [-getElem?_pos, z0, z1, z2, ]
      repeat (first | (with_reducible refine AWp.seqK fun _ => ?_) | (with_reducible refine AWp.blockK fun _ => ?_) | (with_reducible refine KK.go ?_) | (refine AWp.reg tabOk ?_; simp [-getElem?_pos, z0, z1, z2, w1]) | (refine AWp.condK fun _ _ => ?_; simp [-getElem?_pos, z0, z1, z2, w1]) | (refine AWp.ret ?_; try simp only [thenP]) | (refine AWp.skip ?_; try simp only [thenP]) | (refine AWp.exit ?_; try simp only [thenP]) | (with_reducible refine AWp.scopeK fun _ => ?_) | (refine AWp.label ?_; try simp only [thenP]) | (with_reducible refine SS.go (fun _ h => by cases h) ?_; try simp only [blockP, thenP]) | (with_reducible refine BB.go ?_; simp only [blockP, thenP, if_true, if_false, reduceIte]) | (refine AWp.draws tabOk (by kernel_rfl) (by kernel_rfl) ?_; simp [-getElem?_pos, z0, z1, z2, w1]) | (with_reducible refine And.intro (show okLog _ _ = true from by kernel_rfl) ?_))
      refine LL.go ⟨k + 1, hlt⟩ [0] ⟨by rfl, by simp [hta], by simp [or_imp, forall_and, hta] <;> (try (intro _hne; simp [_hne])), by decide⟩ ?_
      simp; omega
    | cons t0 o =>
      repeat (first | (with_reducible refine AWp.seqK fun _ => ?_) | (with_reducible refine AWp.blockK fun _ => ?_) | (with_reducible refine KK.go ?_) | (refine AWp.reg tabOk ?_; simp [-getElem?_pos, z0, z1, z2, hlt, hs, w2, w3, tubesC_nil, tubesC_cons]) | (refine AWp.condK fun _ _ => ?_; simp [-getElem?_pos, z0, z1, z2, hlt, hs, w2, w3, tubesC_nil, tubesC_cons]) | (refine AWp.ret ?_; try simp only [thenP]) | (refine AWp.skip ?_; try simp only [thenP]) | (refine AWp.exit ?_; try simp only [thenP]) | (with_reducible refine AWp.scopeK fun _ => ?_) | (refine AWp.label ?_; try simp only [thenP]) | (with_reducible refine SS.go (fun _ h => by cases h) ?_; try simp only [blockP, thenP]) | (with_reducible refine BB.go ?_; simp only [blockP, thenP, if_true, if_false, reduceIte]) | (refine AWp.draws tabOk (by kernel_rfl) (by kernel_rfl) ?_; simp [-getElem?_pos, z0, z1, z2, hlt, hs, w2, w3, tubesC_nil, tubesC_cons]) | (with_reducible refine And.intro (show okLog _ _ = true from by kernel_rfl) ?_))
      (first | refine Exec0.call [] cg ?_ rfl ?_ ?_ | refine Exec.call [] cg ?_ rfl ?_ ?_); (focus simp [-getElem?_pos, ]); (focus simp [-getElem?_pos, z0, z1, z2, ]); simp [-getElem?_pos, z0, z1, z2, ]
      repeat (first | (with_reducible refine AWp.seqK fun _ => ?_) | (with_reducible refine AWp.blockK fun _ => ?_) | (with_reducible refine KK.go ?_) | (refine AWp.reg tabOk ?_; simp [-getElem?_pos, z0, z1, z2, w1]) | (refine AWp.condK fun _ _ => ?_; simp [-getElem?_pos, z0, z1, z2, w1]) | (refine AWp.ret ?_; try simp only [thenP]) | (refine AWp.skip ?_; try simp only [thenP]) | (refine AWp.exit ?_; try simp only [thenP]) | (with_reducible refine AWp.scopeK fun _ => ?_) | (refine AWp.label ?_; try simp only [thenP]) | (with_reducible refine SS.go (fun _ h => by cases h) ?_; try simp only [blockP, thenP]) | (with_reducible refine BB.go ?_; simp only [blockP, thenP, if_true, if_false, reduceIte]) | (refine AWp.draws tabOk (by kernel_rfl) (by kernel_rfl) ?_; simp [-getElem?_pos, z0, z1, z2, w1]) | (with_reducible refine And.intro (show okLog _ _ = true from by kernel_rfl) ?_))
      refine LL.go ⟨k + 1, hlt⟩ [0] ⟨by rfl, by simp [hta], by simp [or_imp, forall_and, hta] <;> (try (intro _hne; simp [_hne])), by decide⟩ ?_
      simp; omega
  · obtain rfl : k = b.st.length := by omega
    have hfin : tubesC (tubesN b b.st.length) = .d (.list (rgRows (tubesN b b.st.length))) := by
      cases h : tubesN b b.st.length with
      | nil => rw [h] at htl; simp at htl; omega
      | cons t0 o => exact tubesC_cons _ _
    repeat (first | (with_reducible refine AWp.seqK fun _ => ?_) | (with_reducible refine AWp.blockK fun _ => ?_) | (with_reducible refine KK.go ?_) | (refine AWp.reg tabOk ?_; simp [-getElem?_pos, z0, z1, z2, hlt, hfin]) | (refine AWp.condK fun _ _ => ?_; simp [-getElem?_pos, z0, z1, z2, hlt, hfin]) | (refine AWp.ret ?_; try simp only [thenP]) | (refine AWp.skip ?_; try simp only [thenP]) | (refine AWp.exit ?_; try simp only [thenP]) | (with_reducible refine AWp.scopeK fun _ => ?_) | (refine AWp.label ?_; try simp only [thenP]) | (with_reducible refine SS.go (fun _ h => by cases h) ?_; try simp only [blockP, thenP]) | (with_reducible refine BB.go ?_; simp only [blockP, thenP, if_true, if_false, reduceIte]) | (refine AWp.draws tabOk (by kernel_rfl) (by kernel_rfl) ?_; simp [-getElem?_pos, z0, z1, z2, hlt, hfin]) | (with_reducible refine And.intro (show okLog _ _ = true from by kernel_rfl) ?_))
    (first | refine RO.ret [0] _ rfl ?_ | refine RO.normal [0] _ rfl ?_); exact ⟨by rfl, by simp [ghosts, List.range_succ, hfin], by simp [or_imp, forall_and, hfin], by decide⟩
end Go.Proofs.Ytnhhlmikkmjenaa.Eng

/-
  Layer 2: package warp, what a bench tells; what blows cost; stations that contradict each other.
-/
namespace Go.Proofs.Ytnhhlmikkmjenaa.Eng
open Go.RowKit

theorem AWp.label {P : Program} {tp : Bool} {ns l n : Nat} {s : St} {Q : Post} (h : Q .normal n s) : AWp P tp ns (.label l) n s Q := fun _ _ E _ _ _ hs => wp_label ⟨n, s, E, hs, h⟩
abbrev benchW (b : Blade) : Blk := benchV b (.d (.list (rgRows (tubesN b b.st.length)))) (bearsF 0) .nilS
theorem tubesN_get {b : Blade} {k : Nat} {s : Stn} (hs : b.st[k]? = some s) : (tubesN b b.st.length)[k]? = some (tubeS s) := by
  unfold tubesN
  rw [List.take_of_length_le (Nat.le_refl _), List.getElem?_map, hs]
  rfl
set_option maxRecDepth 100000 in
set_option maxHeartbeats 4000000 in
theorem tube_neg (b : Blade) : MCall Try.prog 72 [.ptr 0 0 0, .d (iD (-1))] [(0, benchW b)] 1 (.d (rgD 0 0)) [(0, benchW b)] := by
  refine mcallD tabOk Try.func72 Try.ntmps72 rfl rfl (show 2 ≤ _ by decide) rfl rfl (by simp [startM, ghosts, List.range_succ]; rfl) fun _ => ?_
  repeat (first | (with_reducible refine AWp.seqK fun _ => ?_) | (with_reducible refine AWp.blockK fun _ => ?_) | (with_reducible refine KK.go ?_) | (refine AWp.reg tabOk ?_; simp [-getElem?_pos, z0, z1, z2, ]) | (refine AWp.condK fun _ _ => ?_; simp [-getElem?_pos, z0, z1, z2, ]) | (refine AWp.ret ?_; try simp only [thenP]) | (refine AWp.skip ?_; try simp only [thenP]) | (refine AWp.exit ?_; try simp only [thenP]) | (with_reducible refine AWp.scopeK fun _ => ?_) | (refine AWp.label ?_; try simp only [thenP]) | (with_reducible refine SS.go (fun _ h => by cases h) ?_; try simp only [blockP, thenP]) | (with_reducible refine BB.go ?_; simp only [blockP, thenP, if_true, if_false, reduceIte]) | (refine AWp.draws tabOk (by kernel_rfl) (by kernel_rfl) ?_; simp [-getElem?_pos, z0, z1, z2, ]) | (with_reducible refine And.intro (show okLog _ _ = true from by kernel_rfl) ?_))
  (first | refine RD.ret [0, 99] [] ?_ ?_ | refine RD.normal [0, 99] [] ?_ ?_); (focus (simp [])); exact ⟨by rfl, by simp [ghosts, List.range_succ, ], by simp [or_imp, forall_and, ], by decide⟩
set_option maxRecDepth 100000 in
set_option maxHeartbeats 4000000 in
theorem tube_at {b : Blade} {k : Nat} {s : Stn} (hs : b.st[k]? = some s) : MCall Try.prog 72 [.ptr 0 0 0, .d (iD k)] [(0, benchW b)] 1 (.d (rgD (tubeS s).1 (tubeS s).2)) [(0, benchW b)] := by
  have ht := tubesN_get hs
  have hk : ¬ (k : Int) = -1 := by omega
  generalize tubeS s = t at *
  refine mcallD tabOk Try.func72 Try.ntmps72 rfl rfl (show 2 ≤ _ by decide) rfl rfl (by simp [startM, ghosts, List.range_succ]; rfl) fun _ => ?_
  repeat (first | (with_reducible refine AWp.seqK fun _ => ?_) | (with_reducible refine AWp.blockK fun _ => ?_) | (with_reducible refine KK.go ?_) | (refine AWp.reg tabOk ?_; simp [-getElem?_pos, z0, z1, z2, ht, hk]) | (refine AWp.condK fun _ _ => ?_; simp [-getElem?_pos, z0, z1, z2, ht, hk]) | (refine AWp.ret ?_; try simp only [thenP]) | (refine AWp.skip ?_; try simp only [thenP]) | (refine AWp.exit ?_; try simp only [thenP]) | (with_reducible refine AWp.scopeK fun _ => ?_) | (refine AWp.label ?_; try simp only [thenP]) | (with_reducible refine SS.go (fun _ h => by cases h) ?_; try simp only [blockP, thenP]) | (with_reducible refine BB.go ?_; simp only [blockP, thenP, if_true, if_false, reduceIte]) | (refine AWp.draws tabOk (by kernel_rfl) (by kernel_rfl) ?_; simp [-getElem?_pos, z0, z1, z2, ht, hk]) | (with_reducible refine And.intro (show okLog _ _ = true from by kernel_rfl) ?_))
  (first | refine RD.ret [0, 99] [] ?_ ?_ | refine RD.normal [0, 99] [] ?_ ?_); (focus (simp [])); exact ⟨by rfl, by simp [ghosts, List.range_succ, ], by simp [or_imp, forall_and, ], by decide⟩
theorem tube_c {b : Blade} {i : Int} (h1 : -1 ≤ i) (h2 : i < b.st.length) : MCall Try.prog 72 [.ptr 0 0 0, .d (iD i)] [(0, benchW b)] 1 (.d (rgD (tubeN b i).1 (tubeN b i).2)) [(0, benchW b)] := by
  by_cases h : i < 0
  · obtain rfl : i = -1 := by omega
    exact tube_neg b
  · obtain ⟨k, rfl⟩ := Int.eq_ofNat_of_zero_le (show 0 ≤ i by omega)
    obtain ⟨s, hs⟩ : ∃ s, b.st[k]? = some s := ⟨_, List.getElem?_eq_getElem (by omega)⟩
    rw [tubeN_at hs]
    exact tube_at hs
set_option maxRecDepth 100000 in
set_option maxHeartbeats 4000000 in
theorem price_c {b : Blade} (ok : BladeOk b) {k : Nat} {s : Stn} (hs : b.st[k]? = some s) {x : Int} (hx : -200 ≤ x ∧ x ≤ 200) : MCall Try.prog 49 [.ptr 0 0 0, .d (iD k), .d (iD x)] [(0, benchW b)] 1 (.d (iD (absI x * s.hard))) [(0, benchW b)] := by
  have wn : IntKind.i64.wrap (-x) = -x := wrap64_in (by omega)
  have ea : (if x < -x then -x else x) = absI x := by unfold absI; split <;> split <;> omega
  have h1 := absI_bound hx
  have h2 := ok.stn hs
  have h3 : absI x * s.hard ≤ 200 * 9 := Int.mul_le_mul h1.2 (by omega) (by omega) (by omega)
  have h4 : 0 ≤ absI x * s.hard := Int.mul_nonneg h1.1 (by omega)
  have w2 : IntKind.i64.wrap (s.hard * absI x) = absI x * s.hard := by rw [Int.mul_comm]; exact wrap64_in (by omega)
  refine mcallD tabOk Try.func49 Try.ntmps49 rfl rfl (show 3 ≤ _ by decide) rfl rfl (by simp [startM, ghosts, List.range_succ]; rfl) fun _ => ?_
  repeat (first | (with_reducible refine AWp.seqK fun _ => ?_) | (with_reducible refine AWp.blockK fun _ => ?_) | (with_reducible refine KK.go ?_) | (refine AWp.reg tabOk ?_; simp [-getElem?_pos, z0, z1, z2, hs, wn, ea, w2]) | (refine AWp.condK fun _ _ => ?_; simp [-getElem?_pos, z0, z1, z2, hs, wn, ea, w2]) | (refine AWp.ret ?_; try simp only [thenP]) | (refine AWp.skip ?_; try simp only [thenP]) | (refine AWp.exit ?_; try simp only [thenP]) | (with_reducible refine AWp.scopeK fun _ => ?_) | (refine AWp.label ?_; try simp only [thenP]) | (with_reducible refine SS.go (fun _ h => by cases h) ?_; try simp only [blockP, thenP]) | (with_reducible refine BB.go ?_; simp only [blockP, thenP, if_true, if_false, reduceIte]) | (refine AWp.draws tabOk (by kernel_rfl) (by kernel_rfl) ?_; simp [-getElem?_pos, z0, z1, z2, hs, wn, ea, w2]) | (with_reducible refine And.intro (show okLog _ _ = true from by kernel_rfl) ?_))
  (first | refine RD.ret [0, 99] [] ?_ ?_ | refine RD.normal [0, 99] [] ?_ ?_); (focus (simp [])); exact ⟨by rfl, by simp [ghosts, List.range_succ, ], by simp [or_imp, forall_and, ], by decide⟩
set_option maxRecDepth 100000 in
set_option maxHeartbeats 4000000 in
theorem contradict_c {b : Blade} (ok : BladeOk b) {i : Int} {k : Int} (h1 : -1 ≤ i) (h2 : i < b.st.length) (h3 : -1 ≤ k) (h4 : k < b.st.length) (hik : i ≤ k) : MCall Try.prog 70 [.ptr 0 0 0, .d (iD i), .d (iD k)] [(0, benchW b)] 1 (.d (bD (contraB b i k))) [(0, benchW b)] := by
  have c1 := tube_c h1 h2
  have c2 := tube_c h3 h4
  have t1 := tubeN_bound ok i
  have t2 := tubeN_bound ok k
  have hn2 := ok.n2
  have hm0 := ok.m0
  have hm1 := ok.m1
  have e : contraB b i k = (decide (b.most * (k - i) < (tubeN b i).1 - (tubeN b k).2) || decide (b.most * (k - i) < (tubeN b k).1 - (tubeN b i).2)) := by
    unfold contraB
    rw [← Bool.decide_or]
    congr 1
    apply propext
    split <;> omega
  rw [e]
  generalize tubeN b i = x at *
  generalize tubeN b k = y at *
  have v1 : IntKind.i64.wrap (x.1 - y.2) = x.1 - y.2 := wrap64_in (by omega)
  have v2 : IntKind.i64.wrap (y.1 - x.2) = y.1 - x.2 := wrap64_in (by omega)
  have v3 : IntKind.i64.wrap (k - i) = k - i := wrap64_in (by omega)
  have hmul : 0 ≤ b.most * (k - i) := Int.mul_nonneg hm0 (by omega)
  have hmul2 : b.most * (k - i) ≤ 200 * 21 := Int.mul_le_mul hm1 (by omega) (by omega) (by omega)
  have v4 : IntKind.i64.wrap (b.most * (k - i)) = b.most * (k - i) := wrap64_in (by omega)
  by_cases g : b.most * (k - i) < x.1 - y.2
  · refine mcallD tabOk Try.func70 Try.ntmps70 rfl rfl (show 3 ≤ _ by decide) rfl rfl (by simp [startM, ghosts, List.range_succ]; rfl) fun _ => ?_
    repeat (first | (with_reducible refine AWp.seqK fun _ => ?_) | (with_reducible refine AWp.blockK fun _ => ?_) | (with_reducible refine KK.go ?_) | (refine AWp.reg tabOk ?_; simp [-getElem?_pos, z0, z1, z2, ]) | (refine AWp.condK fun _ _ => ?_; simp [-getElem?_pos, z0, z1, z2, ]) | (refine AWp.ret ?_; try simp only [thenP]) | (refine AWp.skip ?_; try simp only [thenP]) | (refine AWp.exit ?_; try simp only [thenP]) | (with_reducible refine AWp.scopeK fun _ => ?_) | (refine AWp.label ?_; try simp only [thenP]) | (with_reducible refine SS.go (fun _ h => by cases h) ?_; try simp only [blockP, thenP]) | (with_reducible refine BB.go ?_; simp only [blockP, thenP, if_true, if_false, reduceIte]) | (refine AWp.draws tabOk (by kernel_rfl) (by kernel_rfl) ?_; simp [-getElem?_pos, z0, z1, z2, ]) | (with_reducible refine And.intro (show okLog _ _ = true from by kernel_rfl) ?_))
    refine Exec0.callM [0] c1 (by simp [-getElem?_pos, ]) (by simp [-getElem?_pos, z0, z1, z2, ]) (by simp [or_imp, forall_and, ]) ⟨by rfl, by decide, by rfl⟩ ?_; simp [-getElem?_pos, z0, z1, z2, ]
    refine Exec0.callM [0] c2 (by simp [-getElem?_pos, ]) (by simp [-getElem?_pos, z0, z1, z2, ]) (by simp [or_imp, forall_and, ]) ⟨by rfl, by decide, by rfl⟩ ?_; simp [-getElem?_pos, z0, z1, z2, ]
    repeat (first | (with_reducible refine AWp.seqK fun _ => ?_) | (with_reducible refine AWp.blockK fun _ => ?_) | (with_reducible refine KK.go ?_) | (refine AWp.reg tabOk ?_; simp [-getElem?_pos, z0, z1, z2, v1, v2, v3, v4, g]) | (refine AWp.condK fun _ _ => ?_; simp [-getElem?_pos, z0, z1, z2, v1, v2, v3, v4, g]) | (refine AWp.ret ?_; try simp only [thenP]) | (refine AWp.skip ?_; try simp only [thenP]) | (refine AWp.exit ?_; try simp only [thenP]) | (with_reducible refine AWp.scopeK fun _ => ?_) | (refine AWp.label ?_; try simp only [thenP]) | (with_reducible refine SS.go (fun _ h => by cases h) ?_; try simp only [blockP, thenP]) | (with_reducible refine BB.go ?_; simp only [blockP, thenP, if_true, if_false, reduceIte]) | (refine AWp.draws tabOk (by kernel_rfl) (by kernel_rfl) ?_; simp [-getElem?_pos, z0, z1, z2, v1, v2, v3, v4, g]) | (with_reducible refine And.intro (show okLog _ _ = true from by kernel_rfl) ?_))
    (first | refine RD.ret [0, 99] [] ?_ ?_ | refine RD.normal [0, 99] [] ?_ ?_); (focus (simp [g])); exact ⟨by rfl, by simp [ghosts, List.range_succ, g], by simp [or_imp, forall_and, g], by decide⟩
  · by_cases g2 : b.most * (k - i) < y.1 - x.2
    · refine mcallD tabOk Try.func70 Try.ntmps70 rfl rfl (show 3 ≤ _ by decide) rfl rfl (by simp [startM, ghosts, List.range_succ]; rfl) fun _ => ?_
      repeat (first | (with_reducible refine AWp.seqK fun _ => ?_) | (with_reducible refine AWp.blockK fun _ => ?_) | (with_reducible refine KK.go ?_) | (refine AWp.reg tabOk ?_; simp [-getElem?_pos, z0, z1, z2, ]) | (refine AWp.condK fun _ _ => ?_; simp [-getElem?_pos, z0, z1, z2, ]) | (refine AWp.ret ?_; try simp only [thenP]) | (refine AWp.skip ?_; try simp only [thenP]) | (refine AWp.exit ?_; try simp only [thenP]) | (with_reducible refine AWp.scopeK fun _ => ?_) | (refine AWp.label ?_; try simp only [thenP]) | (with_reducible refine SS.go (fun _ h => by cases h) ?_; try simp only [blockP, thenP]) | (with_reducible refine BB.go ?_; simp only [blockP, thenP, if_true, if_false, reduceIte]) | (refine AWp.draws tabOk (by kernel_rfl) (by kernel_rfl) ?_; simp [-getElem?_pos, z0, z1, z2, ]) | (with_reducible refine And.intro (show okLog _ _ = true from by kernel_rfl) ?_))
      refine Exec0.callM [0] c1 (by simp [-getElem?_pos, ]) (by simp [-getElem?_pos, z0, z1, z2, ]) (by simp [or_imp, forall_and, ]) ⟨by rfl, by decide, by rfl⟩ ?_; simp [-getElem?_pos, z0, z1, z2, ]
      refine Exec0.callM [0] c2 (by simp [-getElem?_pos, ]) (by simp [-getElem?_pos, z0, z1, z2, ]) (by simp [or_imp, forall_and, ]) ⟨by rfl, by decide, by rfl⟩ ?_; simp [-getElem?_pos, z0, z1, z2, ]
      repeat (first | (with_reducible refine AWp.seqK fun _ => ?_) | (with_reducible refine AWp.blockK fun _ => ?_) | (with_reducible refine KK.go ?_) | (refine AWp.reg tabOk ?_; simp [-getElem?_pos, z0, z1, z2, v1, v2, v3, v4, g, g2]) | (refine AWp.condK fun _ _ => ?_; simp [-getElem?_pos, z0, z1, z2, v1, v2, v3, v4, g, g2]) | (refine AWp.ret ?_; try simp only [thenP]) | (refine AWp.skip ?_; try simp only [thenP]) | (refine AWp.exit ?_; try simp only [thenP]) | (with_reducible refine AWp.scopeK fun _ => ?_) | (refine AWp.label ?_; try simp only [thenP]) | (with_reducible refine SS.go (fun _ h => by cases h) ?_; try simp only [blockP, thenP]) | (with_reducible refine BB.go ?_; simp only [blockP, thenP, if_true, if_false, reduceIte]) | (refine AWp.draws tabOk (by kernel_rfl) (by kernel_rfl) ?_; simp [-getElem?_pos, z0, z1, z2, v1, v2, v3, v4, g, g2]) | (with_reducible refine And.intro (show okLog _ _ = true from by kernel_rfl) ?_))
      (first | refine RD.ret [0, 99] [] ?_ ?_ | refine RD.normal [0, 99] [] ?_ ?_); (focus (simp [g, g2])); exact ⟨by rfl, by simp [ghosts, List.range_succ, g, g2], by simp [or_imp, forall_and, g, g2], by decide⟩
    · refine mcallD tabOk Try.func70 Try.ntmps70 rfl rfl (show 3 ≤ _ by decide) rfl rfl (by simp [startM, ghosts, List.range_succ]; rfl) fun _ => ?_
      repeat (first | (with_reducible refine AWp.seqK fun _ => ?_) | (with_reducible refine AWp.blockK fun _ => ?_) | (with_reducible refine KK.go ?_) | (refine AWp.reg tabOk ?_; simp [-getElem?_pos, z0, z1, z2, ]) | (refine AWp.condK fun _ _ => ?_; simp [-getElem?_pos, z0, z1, z2, ]) | (refine AWp.ret ?_; try simp only [thenP]) | (refine AWp.skip ?_; try simp only [thenP]) | (refine AWp.exit ?_; try simp only [thenP]) | (with_reducible refine AWp.scopeK fun _ => ?_) | (refine AWp.label ?_; try simp only [thenP]) | (with_reducible refine SS.go (fun _ h => by cases h) ?_; try simp only [blockP, thenP]) | (with_reducible refine BB.go ?_; simp only [blockP, thenP, if_true, if_false, reduceIte]) | (refine AWp.draws tabOk (by kernel_rfl) (by kernel_rfl) ?_; simp [-getElem?_pos, z0, z1, z2, ]) | (with_reducible refine And.intro (show okLog _ _ = true from by kernel_rfl) ?_))
      refine Exec0.callM [0] c1 (by simp [-getElem?_pos, ]) (by simp [-getElem?_pos, z0, z1, z2, ]) (by simp [or_imp, forall_and, ]) ⟨by rfl, by decide, by rfl⟩ ?_; simp [-getElem?_pos, z0, z1, z2, ]
      refine Exec0.callM [0] c2 (by simp [-getElem?_pos, ]) (by simp [-getElem?_pos, z0, z1, z2, ]) (by simp [or_imp, forall_and, ]) ⟨by rfl, by decide, by rfl⟩ ?_; simp [-getElem?_pos, z0, z1, z2, ]
      repeat (first | (with_reducible refine AWp.seqK fun _ => ?_) | (with_reducible refine AWp.blockK fun _ => ?_) | (with_reducible refine KK.go ?_) | (refine AWp.reg tabOk ?_; simp [-getElem?_pos, z0, z1, z2, v1, v2, v3, v4, g, g2]) | (refine AWp.condK fun _ _ => ?_; simp [-getElem?_pos, z0, z1, z2, v1, v2, v3, v4, g, g2]) | (refine AWp.ret ?_; try simp only [thenP]) | (refine AWp.skip ?_; try simp only [thenP]) | (refine AWp.exit ?_; try simp only [thenP]) | (with_reducible refine AWp.scopeK fun _ => ?_) | (refine AWp.label ?_; try simp only [thenP]) | (with_reducible refine SS.go (fun _ h => by cases h) ?_; try simp only [blockP, thenP]) | (with_reducible refine BB.go ?_; simp only [blockP, thenP, if_true, if_false, reduceIte]) | (refine AWp.draws tabOk (by kernel_rfl) (by kernel_rfl) ?_; simp [-getElem?_pos, z0, z1, z2, v1, v2, v3, v4, g, g2]) | (with_reducible refine And.intro (show okLog _ _ = true from by kernel_rfl) ?_))
      (first | refine RD.ret [0, 99] [] ?_ ?_ | refine RD.normal [0, 99] [] ?_ ?_); (focus (simp [g, g2])); exact ⟨by rfl, by simp [ghosts, List.range_succ, g, g2], by simp [or_imp, forall_and, g, g2], by decide⟩
/-- What package warp's search returns. -/
def clashB (b : Blade) : Dat := match clashN b with
  | some (i, k) => .tup [iD i, iD k, bD true]
  | none => .tup [iD 0, iD 0, bD false]
set_option maxRecDepth 100000 in
set_option maxHeartbeats 4000000 in
theorem clash_c {b : Blade} (ok : BladeOk b) : MCall Try.prog 51 [.ptr 0 0 0] [(0, benchW b)] 1 (.d (clashB b)) [(0, benchW b)] := by
  have hn2 := ok.n2
  obtain ⟨r, hr⟩ : ∃ r, r = clashB b := ⟨_, rfl⟩
  rw [← hr]
  unfold clashB at hr
  refine mcallD tabOk Try.func51 Try.ntmps51 rfl rfl (show 1 ≤ _ by decide) rfl rfl (by simp [startM, ghosts, List.range_succ]; rfl) fun _ => ?_
  repeat (first | (with_reducible refine AWp.seqK fun _ => ?_) | (with_reducible refine AWp.blockK fun _ => ?_) | (with_reducible refine KK.go ?_) | (refine AWp.reg tabOk ?_; simp [-getElem?_pos, z0, z1, z2, ]) | (refine AWp.condK fun _ _ => ?_; simp [-getElem?_pos, z0, z1, z2, ]) | (refine AWp.ret ?_; try simp only [thenP]) | (refine AWp.skip ?_; try simp only [thenP]) | (refine AWp.exit ?_; try simp only [thenP]) | (with_reducible refine AWp.scopeK fun _ => ?_) | (refine AWp.label ?_; try simp only [thenP]) | (with_reducible refine SS.go (fun _ h => by cases h) ?_; try simp only [blockP, thenP]) | (with_reducible refine BB.go ?_; simp only [blockP, thenP, if_true, if_false, reduceIte]) | (refine AWp.draws tabOk (by kernel_rfl) (by kernel_rfl) ?_; simp [-getElem?_pos, z0, z1, z2, ]) | (with_reducible refine And.intro (show okLog _ _ = true from by kernel_rfl) ?_))
  refine AWp.loopK (ι := { j : Nat // j ≤ b.st.length + 1 ∧ clashAll b j (b.st.length + 1 - j) = clashN b }) (n := 1) (fun j => [(0, .ptr 0 0 0), (5, .d (iD 0)), (6, .d (iD 0)), (7, .d (bD false)), (8, .d (iD ((j.1 : Int) - 1))), (41, .ptr 0 0 0)]) (fun _ => [(0, benchW b)]) (fun j => b.st.length + 1 - j.1) ⟨0, Nat.zero_le _, rfl⟩ [0] ?_ ?_
  · refine ⟨by rfl, by simp [], by simp [or_imp, forall_and, ] <;> (try (intro _hne; simp [_hne])), by decide⟩
  rintro ⟨j, hj, hall⟩ kk
  have w1 : IntKind.i64.wrap (j : Int) = (j : Int) := wrap64_in (by omega)
  by_cases hlt : j < b.st.length + 1
  · have hlt' : (j : Int) - 1 < b.st.length := by omega
    rw [show b.st.length + 1 - j = b.st.length - j + 1 by omega, clashAll] at hall
    repeat (first | (with_reducible refine AWp.seqK fun _ => ?_) | (with_reducible refine AWp.blockK fun _ => ?_) | (with_reducible refine KK.go ?_) | (refine AWp.reg tabOk ?_; simp [-getElem?_pos, z0, z1, z2, hlt', w1]) | (refine AWp.condK fun _ _ => ?_; simp [-getElem?_pos, z0, z1, z2, hlt', w1]) | (refine AWp.ret ?_; try simp only [thenP]) | (refine AWp.skip ?_; try simp only [thenP]) | (refine AWp.exit ?_; try simp only [thenP]) | (with_reducible refine AWp.scopeK fun _ => ?_) | (refine AWp.label ?_; try simp only [thenP]) | (with_reducible refine SS.go (fun _ h => by cases h) ?_; try simp only [blockP, thenP]) | (with_reducible refine BB.go ?_; simp only [blockP, thenP, if_true, if_false, reduceIte]) | (refine AWp.draws tabOk (by kernel_rfl) (by kernel_rfl) ?_; simp [-getElem?_pos, z0, z1, z2, hlt', w1]) | (with_reducible refine And.intro (show okLog _ _ = true from by kernel_rfl) ?_))
    refine AWp.loopK (ι := { k : Nat // j ≤ k ∧ k ≤ b.st.length ∧ clashRow b ((j : Int) - 1) k (b.st.length - k) = clashRow b ((j : Int) - 1) j (b.st.length - j) }) (n := 1) (fun k => [(0, .ptr 0 0 0), (5, .d (iD 0)), (6, .d (iD 0)), (7, .d (bD false)), (8, .d (iD ((j : Int) - 1))), (9, .d (iD k.1)), (41, .ptr 0 0 0)]) (fun _ => [(0, benchW b)]) (fun k => b.st.length - k.1) ⟨j, Nat.le_refl _, by omega, rfl⟩ [0] ?_ ?_
    · refine ⟨by rfl, by simp [], by simp [or_imp, forall_and, ] <;> (try (intro _hne; simp [_hne])), by decide⟩
    rintro ⟨k, hjk, hk, hrow⟩ kk2
    have w2 : IntKind.i64.wrap ((k : Int) + 1) = (k : Int) + 1 := wrap64_in (by omega)
    by_cases hlt2 : k < b.st.length
    · have cc := contradict_c ok (i := (j : Int) - 1) (k := (k : Int)) (by omega) (by omega) (by omega) (by omega) (by omega)
      rw [show b.st.length - k = b.st.length - (k + 1) + 1 by omega, clashRow] at hrow
      rcases g : contraB b ((j : Int) - 1) k <;> rw [g] at cc
      · rw [g, if_neg (by simp)] at hrow
        repeat (first | (with_reducible refine AWp.seqK fun _ => ?_) | (with_reducible refine AWp.blockK fun _ => ?_) | (with_reducible refine KK.go ?_) | (refine AWp.reg tabOk ?_; simp [-getElem?_pos, z0, z1, z2, hlt2]) | (refine AWp.condK fun _ _ => ?_; simp [-getElem?_pos, z0, z1, z2, hlt2]) | (refine AWp.ret ?_; try simp only [thenP]) | (refine AWp.skip ?_; try simp only [thenP]) | (refine AWp.exit ?_; try simp only [thenP]) | (with_reducible refine AWp.scopeK fun _ => ?_) | (refine AWp.label ?_; try simp only [thenP]) | (with_reducible refine SS.go (fun _ h => by cases h) ?_; try simp only [blockP, thenP]) | (with_reducible refine BB.go ?_; simp only [blockP, thenP, if_true, if_false, reduceIte]) | (refine AWp.draws tabOk (by kernel_rfl) (by kernel_rfl) ?_; simp [-getElem?_pos, z0, z1, z2, hlt2]) | (with_reducible refine And.intro (show okLog _ _ = true from by kernel_rfl) ?_))
        refine Exec0.callM [0] cc (by simp [-getElem?_pos, ]) (by simp [-getElem?_pos, z0, z1, z2, ]) (by simp [or_imp, forall_and, ]) ⟨by rfl, by decide, by rfl⟩ ?_; simp [-getElem?_pos, z0, z1, z2, ]
        repeat (first | (with_reducible refine AWp.seqK fun _ => ?_) | (with_reducible refine AWp.blockK fun _ => ?_) | (with_reducible refine KK.go ?_) | (refine AWp.reg tabOk ?_; simp [-getElem?_pos, z0, z1, z2, w2]) | (refine AWp.condK fun _ _ => ?_; simp [-getElem?_pos, z0, z1, z2, w2]) | (refine AWp.ret ?_; try simp only [thenP]) | (refine AWp.skip ?_; try simp only [thenP]) | (refine AWp.exit ?_; try simp only [thenP]) | (with_reducible refine AWp.scopeK fun _ => ?_) | (refine AWp.label ?_; try simp only [thenP]) | (with_reducible refine SS.go (fun _ h => by cases h) ?_; try simp only [blockP, thenP]) | (with_reducible refine BB.go ?_; simp only [blockP, thenP, if_true, if_false, reduceIte]) | (refine AWp.draws tabOk (by kernel_rfl) (by kernel_rfl) ?_; simp [-getElem?_pos, z0, z1, z2, w2]) | (with_reducible refine And.intro (show okLog _ _ = true from by kernel_rfl) ?_))
        refine LL.go ⟨k + 1, by omega, by omega, hrow⟩ [0] ⟨by rfl, by simp [], by simp [or_imp, forall_and, ] <;> (try (intro _hne; simp [_hne])), by decide⟩ ?_
        simp; omega
      · rw [g, if_pos rfl] at hrow
        rw [← hrow] at hall
        have hr' : r = .tup [iD ((j : Int) - 1), iD k, bD true] := by rw [hr, ← hall]
        repeat (first | (with_reducible refine AWp.seqK fun _ => ?_) | (with_reducible refine AWp.blockK fun _ => ?_) | (with_reducible refine KK.go ?_) | (refine AWp.reg tabOk ?_; simp [-getElem?_pos, z0, z1, z2, hlt2]) | (refine AWp.condK fun _ _ => ?_; simp [-getElem?_pos, z0, z1, z2, hlt2]) | (refine AWp.ret ?_; try simp only [thenP]) | (refine AWp.skip ?_; try simp only [thenP]) | (refine AWp.exit ?_; try simp only [thenP]) | (with_reducible refine AWp.scopeK fun _ => ?_) | (refine AWp.label ?_; try simp only [thenP]) | (with_reducible refine SS.go (fun _ h => by cases h) ?_; try simp only [blockP, thenP]) | (with_reducible refine BB.go ?_; simp only [blockP, thenP, if_true, if_false, reduceIte]) | (refine AWp.draws tabOk (by kernel_rfl) (by kernel_rfl) ?_; simp [-getElem?_pos, z0, z1, z2, hlt2]) | (with_reducible refine And.intro (show okLog _ _ = true from by kernel_rfl) ?_))
        refine Exec0.callM [0] cc (by simp [-getElem?_pos, ]) (by simp [-getElem?_pos, z0, z1, z2, ]) (by simp [or_imp, forall_and, ]) ⟨by rfl, by decide, by rfl⟩ ?_; simp [-getElem?_pos, z0, z1, z2, ]
        repeat (first | (with_reducible refine AWp.seqK fun _ => ?_) | (with_reducible refine AWp.blockK fun _ => ?_) | (with_reducible refine KK.go ?_) | (refine AWp.reg tabOk ?_; simp [-getElem?_pos, z0, z1, z2, ]) | (refine AWp.condK fun _ _ => ?_; simp [-getElem?_pos, z0, z1, z2, ]) | (refine AWp.ret ?_; try simp only [thenP]) | (refine AWp.skip ?_; try simp only [thenP]) | (refine AWp.exit ?_; try simp only [thenP]) | (with_reducible refine AWp.scopeK fun _ => ?_) | (refine AWp.label ?_; try simp only [thenP]) | (with_reducible refine SS.go (fun _ h => by cases h) ?_; try simp only [blockP, thenP]) | (with_reducible refine BB.go ?_; simp only [blockP, thenP, if_true, if_false, reduceIte]) | (refine AWp.draws tabOk (by kernel_rfl) (by kernel_rfl) ?_; simp [-getElem?_pos, z0, z1, z2, ]) | (with_reducible refine And.intro (show okLog _ _ = true from by kernel_rfl) ?_))
        repeat (first | rw [if_neg (by decide)] | (with_reducible refine BB.go ?_; simp only [blockP, thenP, reduceIte]) | (first | (with_reducible refine AWp.seqK fun _ => ?_) | (with_reducible refine AWp.blockK fun _ => ?_) | (with_reducible refine KK.go ?_) | (refine AWp.reg tabOk ?_; simp [-getElem?_pos, z0, z1, z2, ]) | (refine AWp.condK fun _ _ => ?_; simp [-getElem?_pos, z0, z1, z2, ]) | (refine AWp.ret ?_; try simp only [thenP]) | (refine AWp.skip ?_; try simp only [thenP]) | (refine AWp.exit ?_; try simp only [thenP]) | (with_reducible refine AWp.scopeK fun _ => ?_) | (refine AWp.label ?_; try simp only [thenP]) | (with_reducible refine SS.go (fun _ h => by cases h) ?_; try simp only [blockP, thenP]) | (with_reducible refine BB.go ?_; simp only [blockP, thenP, if_true, if_false, reduceIte]) | (refine AWp.draws tabOk (by kernel_rfl) (by kernel_rfl) ?_; simp [-getElem?_pos, z0, z1, z2, ]) | (with_reducible refine And.intro (show okLog _ _ = true from by kernel_rfl) ?_)))
        (first | refine RD.ret [0, 99] [] ?_ ?_ | refine RD.normal [0, 99] [] ?_ ?_); (focus (simp [hr'])); exact ⟨by rfl, by simp [ghosts, List.range_succ, hr'], by simp [or_imp, forall_and, hr'], by decide⟩
    · obtain rfl : k = b.st.length := by omega
      rw [Nat.sub_self, clashRow] at hrow
      rw [← hrow] at hall
      repeat (first | (with_reducible refine AWp.seqK fun _ => ?_) | (with_reducible refine AWp.blockK fun _ => ?_) | (with_reducible refine KK.go ?_) | (refine AWp.reg tabOk ?_; simp [-getElem?_pos, z0, z1, z2, hlt2, w1]) | (refine AWp.condK fun _ _ => ?_; simp [-getElem?_pos, z0, z1, z2, hlt2, w1]) | (refine AWp.ret ?_; try simp only [thenP]) | (refine AWp.skip ?_; try simp only [thenP]) | (refine AWp.exit ?_; try simp only [thenP]) | (with_reducible refine AWp.scopeK fun _ => ?_) | (refine AWp.label ?_; try simp only [thenP]) | (with_reducible refine SS.go (fun _ h => by cases h) ?_; try simp only [blockP, thenP]) | (with_reducible refine BB.go ?_; simp only [blockP, thenP, if_true, if_false, reduceIte]) | (refine AWp.draws tabOk (by kernel_rfl) (by kernel_rfl) ?_; simp [-getElem?_pos, z0, z1, z2, hlt2, w1]) | (with_reducible refine And.intro (show okLog _ _ = true from by kernel_rfl) ?_))
      refine LL.go ⟨j + 1, by omega, by rw [show b.st.length + 1 - (j + 1) = b.st.length - j by omega]; exact hall⟩ [0] ⟨by rfl, by simp [], by simp [or_imp, forall_and, ] <;> (try (intro _hne; simp [_hne])), by decide⟩ ?_
      simp; omega
  · obtain rfl : j = b.st.length + 1 := by omega
    rw [Nat.sub_self, clashAll] at hall
    have hr' : r = .tup [iD 0, iD 0, bD false] := by rw [hr, ← hall]
    have hlt' : ¬ ((b.st.length + 1 : Nat) : Int) - 1 < b.st.length := by omega
    repeat (first | (with_reducible refine AWp.seqK fun _ => ?_) | (with_reducible refine AWp.blockK fun _ => ?_) | (with_reducible refine KK.go ?_) | (refine AWp.reg tabOk ?_; simp [-getElem?_pos, z0, z1, z2, hlt']) | (refine AWp.condK fun _ _ => ?_; simp [-getElem?_pos, z0, z1, z2, hlt']) | (refine AWp.ret ?_; try simp only [thenP]) | (refine AWp.skip ?_; try simp only [thenP]) | (refine AWp.exit ?_; try simp only [thenP]) | (with_reducible refine AWp.scopeK fun _ => ?_) | (refine AWp.label ?_; try simp only [thenP]) | (with_reducible refine SS.go (fun _ h => by cases h) ?_; try simp only [blockP, thenP]) | (with_reducible refine BB.go ?_; simp only [blockP, thenP, if_true, if_false, reduceIte]) | (refine AWp.draws tabOk (by kernel_rfl) (by kernel_rfl) ?_; simp [-getElem?_pos, z0, z1, z2, hlt']) | (with_reducible refine And.intro (show okLog _ _ = true from by kernel_rfl) ?_))
    (first | refine RD.ret [0, 99] [] ?_ ?_ | refine RD.normal [0, 99] [] ?_ ?_); (focus (simp [hr'])); exact ⟨by rfl, by simp [ghosts, List.range_succ, hr'], by simp [or_imp, forall_and, hr'], by decide⟩
end Go.Proofs.Ytnhhlmikkmjenaa.Eng

/-
  Layer 2: package warp, stations that contradict each other, as it is exported.
-/
namespace Go.Proofs.Ytnhhlmikkmjenaa.Eng
open Go.RowKit

set_option maxRecDepth 100000 in
set_option maxHeartbeats 4000000 in
theorem newBench_a {b : Blade} (ok : BladeOk b) : MCall Try.prog 48 [.agg [.d (.list (stnRows b.st)), .d (iD b.most)]] [] 0 (.ptr 0 0 0) [(0, benchV b (.d (.list (rgRows (tubesN b b.st.length)))) (bearsF 0) .nilS)] := by
  have hn1 := ok.n1
  have hn2 := ok.n2
  refine mcallO tabOk Try.func48 Try.ntmps48 rfl rfl (show 1 ≤ _ by decide) rfl rfl (by simp [startM, ghosts, List.range_succ]; rfl) fun _ => ?_
  repeat (first | (with_reducible refine AWp.seqK fun _ => ?_) | (with_reducible refine AWp.blockK fun _ => ?_) | (with_reducible refine KK.go ?_) | (refine AWp.reg tabOk ?_; simp [-getElem?_pos, z0, z1, z2, ]) | (refine AWp.condK fun _ _ => ?_; simp [-getElem?_pos, z0, z1, z2, ]) | (refine AWp.ret ?_; try simp only [thenP]) | (refine AWp.skip ?_; try simp only [thenP]) | (refine AWp.exit ?_; try simp only [thenP]) | (with_reducible refine AWp.scopeK fun _ => ?_) | (refine AWp.label ?_; try simp only [thenP]) | (with_reducible refine SS.go (fun _ h => by cases h) ?_; try simp only [blockP, thenP]) | (with_reducible refine BB.go ?_; simp only [blockP, thenP, if_true, if_false, reduceIte]) | (refine AWp.draws tabOk (by kernel_rfl) (by kernel_rfl) ?_; simp [-getElem?_pos, z0, z1, z2, ]) | (with_reducible refine And.intro (show okLog _ _ = true from by kernel_rfl) ?_))
  refine AWp.loopK (ι := { k : Nat // k ≤ b.st.length }) (n := 1) (fun k => [(3, .ptr 0 0 0), (13, .d (.list (stnRows b.st))), (14, .d (iD b.st.length)), (15, .d (iD k.1))]) (fun k => [(0, benchV b (tubesC (tubesN b k.1)) (.d (.val .nilFunc)) .nilS)]) (fun k => b.st.length - k.1) ⟨0, Nat.zero_le _⟩ [4] ?_ ?_
  · refine ⟨by rfl, by simp [tubesN, tubesC_nil], by simp [or_imp, forall_and, tubesN, tubesC_nil] <;> (try (intro _hne; simp [_hne])), by decide⟩
  rintro ⟨k, hk⟩ kk
  have w1 : IntKind.i64.wrap ((k : Int) + 1) = (k : Int) + 1 := wrap64_in (by omega)
  have htl := tubesN_len b hk
  by_cases hlt : k < b.st.length
  · obtain ⟨s, hs⟩ : ∃ s, b.st[k]? = some s := ⟨_, List.getElem?_eq_getElem hlt⟩
    have hsb := ok.stn hs
    have w2 : IntKind.i64.wrap (s.lo - s.angle) = s.lo - s.angle := wrap64_in (by omega)
    have w3 : IntKind.i64.wrap (s.hi - s.angle) = s.hi - s.angle := wrap64_in (by omega)
    have hts := tubesN_succ hs
    have cg := grownRange_c (tubesN b k) (s.lo - s.angle) (s.hi - s.angle) (by omega)
    have hta : tubesC (tubesN b (k + 1)) = .d (.list (rgRows (tubesN b k ++ [(s.lo - s.angle, s.hi - s.angle)]))) := by rw [hts]; exact tubesC_app _ _
    generalize tubesN b k = tl at *
    cases tl with
    | nil =>
      repeat (first | (with_reducible refine AWp.seqK fun _ => ?_) | (with_reducible refine AWp.blockK fun _ => ?_) | (with_reducible refine KK.go ?_) | (refine AWp.reg tabOk ?_; simp [-getElem?_pos, z0, z1, z2, hlt, hs, w2, w3, tubesC_nil, tubesC_cons]) | (refine AWp.condK fun _ _ => ?_; simp [-getElem?_pos, z0, z1, z2, hlt, hs, w2, w3, tubesC_nil, tubesC_cons]) | (refine AWp.ret ?_; try simp only [thenP]) | (refine AWp.skip ?_; try simp only [thenP]) | (refine AWp.exit ?_; try simp only [thenP]) | (with_reducible refine AWp.scopeK fun _ => ?_) | (refine AWp.label ?_; try simp only [thenP]) | (with_reducible refine SS.go (fun _ h => by cases h) ?_; try simp only [blockP, thenP]) | (with_reducible refine BB.go ?_; simp only [blockP, thenP, if_true, if_false, reduceIte]) | (refine AWp.draws tabOk (by kernel_rfl) (by kernel_rfl) ?_; simp [-getElem?_pos, z0, z1, z2, hlt, hs, w2, w3, tubesC_nil, tubesC_cons]) | (with_reducible refine And.intro (show okLog _ _ = true from by kernel_rfl) ?_))
      (first | refine Exec0.call [] cg ?_ rfl ?_ ?_ | refine Exec.call [] cg ?_ rfl ?_ ?_); (focus simp [-getElem?_pos, ]); (focus simp [-getElem?_pos, z0, z1, z2, ]); simp [-getElem?_pos, z0, z1, z2, ]
      repeat (first | (with_reducible refine AWp.seqK fun _ => ?_) | (with_reducible refine AWp.blockK fun _ => ?_) | (with_reducible refine KK.go ?_) | (refine AWp.reg tabOk ?_; simp [-getElem?_pos, z0, z1, z2, w1]) | (refine AWp.condK fun _ _ => ?_; simp [-getElem?_pos, z0, z1, z2, w1]) | (refine AWp.ret ?_; try simp only [thenP]) | (refine AWp.skip ?_; try simp only [thenP]) | (refine AWp.exit ?_; try simp only [thenP]) | (with_reducible refine AWp.scopeK fun _ => ?_) | (refine AWp.label ?_; try simp only [thenP]) | (with_reducible refine SS.go (fun _ h => by cases h) ?_; try simp only [blockP, thenP]) | (with_reducible refine BB.go ?_; simp only [blockP, thenP, if_true, if_false, reduceIte]) | (refine AWp.draws tabOk (by kernel_rfl) (by kernel_rfl) ?_; simp [-getElem?_pos, z0, z1, z2, w1]) | (with_reducible refine And.intro (show okLog _ _ = true from by kernel_rfl) ?_))
      refine LL.go ⟨k + 1, hlt⟩ [0] ⟨by rfl, by simp [hta], by simp [or_imp, forall_and, hta] <;> (try (intro _hne; simp [_hne])), by decide⟩ ?_
      simp; omega
    | cons t0 o =>
      repeat (first | (with_reducible refine AWp.seqK fun _ => ?_) | (with_reducible refine AWp.blockK fun _ => ?_) | (with_reducible refine KK.go ?_) | (refine AWp.reg tabOk ?_; simp [-getElem?_pos, z0, z1, z2, hlt, hs, w2, w3, tubesC_nil, tubesC_cons]) | (refine AWp.condK fun _ _ => ?_; simp [-getElem?_pos, z0, z1, z2, hlt, hs, w2, w3, tubesC_nil, tubesC_cons]) | (refine AWp.ret ?_; try simp only [thenP]) | (refine AWp.skip ?_; try simp only [thenP]) | (refine AWp.exit ?_; try simp only [thenP]) | (with_reducible refine AWp.scopeK fun _ => ?_) | (refine AWp.label ?_; try simp only [thenP]) | (with_reducible refine SS.go (fun _ h => by cases h) ?_; try simp only [blockP, thenP]) | (with_reducible refine BB.go ?_; simp only [blockP, thenP, if_true, if_false, reduceIte]) | (refine AWp.draws tabOk (by kernel_rfl) (by kernel_rfl) ?_; simp [-getElem?_pos, z0, z1, z2, hlt, hs, w2, w3, tubesC_nil, tubesC_cons]) | (with_reducible refine And.intro (show okLog _ _ = true from by kernel_rfl) ?_))
      (first | refine Exec0.call [] cg ?_ rfl ?_ ?_ | refine Exec.call [] cg ?_ rfl ?_ ?_); (focus simp [-getElem?_pos, ]); (focus simp [-getElem?_pos, z0, z1, z2, ]); simp [-getElem?_pos, z0, z1, z2, ]
      repeat (first | (with_reducible refine AWp.seqK fun _ => ?_) | (with_reducible refine AWp.blockK fun _ => ?_) | (with_reducible refine KK.go ?_) | (refine AWp.reg tabOk ?_; simp [-getElem?_pos, z0, z1, z2, w1]) | (refine AWp.condK fun _ _ => ?_; simp [-getElem?_pos, z0, z1, z2, w1]) | (refine AWp.ret ?_; try simp only [thenP]) | (refine AWp.skip ?_; try simp only [thenP]) | (refine AWp.exit ?_; try simp only [thenP]) | (with_reducible refine AWp.scopeK fun _ => ?_) | (refine AWp.label ?_; try simp only [thenP]) | (with_reducible refine SS.go (fun _ h => by cases h) ?_; try simp only [blockP, thenP]) | (with_reducible refine BB.go ?_; simp only [blockP, thenP, if_true, if_false, reduceIte]) | (refine AWp.draws tabOk (by kernel_rfl) (by kernel_rfl) ?_; simp [-getElem?_pos, z0, z1, z2, w1]) | (with_reducible refine And.intro (show okLog _ _ = true from by kernel_rfl) ?_))
      refine LL.go ⟨k + 1, hlt⟩ [0] ⟨by rfl, by simp [hta], by simp [or_imp, forall_and, hta] <;> (try (intro _hne; simp [_hne])), by decide⟩ ?_
      simp; omega
  · obtain rfl : k = b.st.length := by omega
    have hfin : tubesC (tubesN b b.st.length) = .d (.list (rgRows (tubesN b b.st.length))) := by
      cases h : tubesN b b.st.length with
      | nil => rw [h] at htl; simp at htl; omega
      | cons t0 o => exact tubesC_cons _ _
    repeat (first | (with_reducible refine AWp.seqK fun _ => ?_) | (with_reducible refine AWp.blockK fun _ => ?_) | (with_reducible refine KK.go ?_) | (refine AWp.reg tabOk ?_; simp [-getElem?_pos, z0, z1, z2, hlt, hfin]) | (refine AWp.condK fun _ _ => ?_; simp [-getElem?_pos, z0, z1, z2, hlt, hfin]) | (refine AWp.ret ?_; try simp only [thenP]) | (refine AWp.skip ?_; try simp only [thenP]) | (refine AWp.exit ?_; try simp only [thenP]) | (with_reducible refine AWp.scopeK fun _ => ?_) | (refine AWp.label ?_; try simp only [thenP]) | (with_reducible refine SS.go (fun _ h => by cases h) ?_; try simp only [blockP, thenP]) | (with_reducible refine BB.go ?_; simp only [blockP, thenP, if_true, if_false, reduceIte]) | (refine AWp.draws tabOk (by kernel_rfl) (by kernel_rfl) ?_; simp [-getElem?_pos, z0, z1, z2, hlt, hfin]) | (with_reducible refine And.intro (show okLog _ _ = true from by kernel_rfl) ?_))
    (first | refine RO.ret [0] _ rfl ?_ | refine RO.normal [0] _ rfl ?_); exact ⟨by rfl, by simp [ghosts, List.range_succ, hfin], by simp [or_imp, forall_and, hfin], by decide⟩
set_option maxRecDepth 100000 in
set_option maxHeartbeats 4000000 in
theorem clashP_c (b : Blade) : ACall Try.prog 20 [bladeD b] (clashD b) := by
  have cb := checkBlade_c b
  by_cases h0 : bladeErr b = 0
  · have ok := bladeOk h0
    rw [h0] at cb
    have cn := newBench_a ok
    have cc := clash_c ok
    have e1 : clashD b = (match clashN b with
      | some (i, k) => .tup [iD i, iD k, iD 0]
      | none => .tup [iD 0, iD 0, iD 5]) := if_pos h0
    rw [e1]
    unfold clashB at cc
    rcases hc : clashN b with _ | ⟨i, k⟩
    · rw [hc] at cc
      simp only [] at cc ⊢
      refine acallK tabOk Try.func20 rfl rfl (show 1 ≤ _ by decide) rfl fun _ => ?_; simp only [Try.ntmps20]
      repeat (first | (with_reducible refine AWp.seqK fun _ => ?_) | (with_reducible refine AWp.blockK fun _ => ?_) | (with_reducible refine KK.go ?_) | (refine AWp.reg tabOk ?_; simp [-getElem?_pos, z0, z1, z2, ]) | (refine AWp.condK fun _ _ => ?_; simp [-getElem?_pos, z0, z1, z2, ]) | (refine AWp.ret ?_; try simp only [thenP]) | (refine AWp.skip ?_; try simp only [thenP]) | (refine AWp.exit ?_; try simp only [thenP]) | (with_reducible refine AWp.scopeK fun _ => ?_) | (refine AWp.label ?_; try simp only [thenP]) | (with_reducible refine SS.go (fun _ h => by cases h) ?_; try simp only [blockP, thenP]) | (with_reducible refine BB.go ?_; simp only [blockP, thenP, if_true, if_false, reduceIte]) | (refine AWp.draws tabOk (by kernel_rfl) (by kernel_rfl) ?_; simp [-getElem?_pos, z0, z1, z2, ]) | (with_reducible refine And.intro (show okLog _ _ = true from by kernel_rfl) ?_))
      (first | refine Exec0.call [] cb ?_ rfl ?_ ?_ | refine Exec.call [] cb ?_ rfl ?_ ?_); (focus simp [-getElem?_pos, ]); (focus simp [-getElem?_pos, z0, z1, z2, ]); simp [-getElem?_pos, z0, z1, z2, ]
      repeat (first | (with_reducible refine AWp.seqK fun _ => ?_) | (with_reducible refine AWp.blockK fun _ => ?_) | (with_reducible refine KK.go ?_) | (refine AWp.reg tabOk ?_; simp [-getElem?_pos, z0, z1, z2, ]) | (refine AWp.condK fun _ _ => ?_; simp [-getElem?_pos, z0, z1, z2, ]) | (refine AWp.ret ?_; try simp only [thenP]) | (refine AWp.skip ?_; try simp only [thenP]) | (refine AWp.exit ?_; try simp only [thenP]) | (with_reducible refine AWp.scopeK fun _ => ?_) | (refine AWp.label ?_; try simp only [thenP]) | (with_reducible refine SS.go (fun _ h => by cases h) ?_; try simp only [blockP, thenP]) | (with_reducible refine BB.go ?_; simp only [blockP, thenP, if_true, if_false, reduceIte]) | (refine AWp.draws tabOk (by kernel_rfl) (by kernel_rfl) ?_; simp [-getElem?_pos, z0, z1, z2, ]) | (with_reducible refine And.intro (show okLog _ _ = true from by kernel_rfl) ?_))
      refine Exec0.callM [] cn (by simp [-getElem?_pos, ]) (by simp [-getElem?_pos, z0, z1, z2, ]) (by simp [or_imp, forall_and, ]) ⟨by rfl, by decide, by rfl⟩ ?_; simp [-getElem?_pos, z0, z1, z2, ]
      refine Exec0.callM [10] cc (by simp [-getElem?_pos, ]) (by simp [-getElem?_pos, z0, z1, z2, ]) (by simp [or_imp, forall_and, ]) ⟨by rfl, by decide, by rfl⟩ ?_; simp [-getElem?_pos, z0, z1, z2, ]
      repeat (first | (with_reducible refine AWp.seqK fun _ => ?_) | (with_reducible refine AWp.blockK fun _ => ?_) | (with_reducible refine KK.go ?_) | (refine AWp.reg tabOk ?_; simp [-getElem?_pos, z0, z1, z2, ]) | (refine AWp.condK fun _ _ => ?_; simp [-getElem?_pos, z0, z1, z2, ]) | (refine AWp.ret ?_; try simp only [thenP]) | (refine AWp.skip ?_; try simp only [thenP]) | (refine AWp.exit ?_; try simp only [thenP]) | (with_reducible refine AWp.scopeK fun _ => ?_) | (refine AWp.label ?_; try simp only [thenP]) | (with_reducible refine SS.go (fun _ h => by cases h) ?_; try simp only [blockP, thenP]) | (with_reducible refine BB.go ?_; simp only [blockP, thenP, if_true, if_false, reduceIte]) | (refine AWp.draws tabOk (by kernel_rfl) (by kernel_rfl) ?_; simp [-getElem?_pos, z0, z1, z2, ]) | (with_reducible refine And.intro (show okLog _ _ = true from by kernel_rfl) ?_))
      (first | refine RR.ret ?_ | refine RR.normal ?_); simp []
    · rw [hc] at cc
      simp only [] at cc ⊢
      refine acallK tabOk Try.func20 rfl rfl (show 1 ≤ _ by decide) rfl fun _ => ?_; simp only [Try.ntmps20]
      repeat (first | (with_reducible refine AWp.seqK fun _ => ?_) | (with_reducible refine AWp.blockK fun _ => ?_) | (with_reducible refine KK.go ?_) | (refine AWp.reg tabOk ?_; simp [-getElem?_pos, z0, z1, z2, ]) | (refine AWp.condK fun _ _ => ?_; simp [-getElem?_pos, z0, z1, z2, ]) | (refine AWp.ret ?_; try simp only [thenP]) | (refine AWp.skip ?_; try simp only [thenP]) | (refine AWp.exit ?_; try simp only [thenP]) | (with_reducible refine AWp.scopeK fun _ => ?_) | (refine AWp.label ?_; try simp only [thenP]) | (with_reducible refine SS.go (fun _ h => by cases h) ?_; try simp only [blockP, thenP]) | (with_reducible refine BB.go ?_; simp only [blockP, thenP, if_true, if_false, reduceIte]) | (refine AWp.draws tabOk (by kernel_rfl) (by kernel_rfl) ?_; simp [-getElem?_pos, z0, z1, z2, ]) | (with_reducible refine And.intro (show okLog _ _ = true from by kernel_rfl) ?_))
      (first | refine Exec0.call [] cb ?_ rfl ?_ ?_ | refine Exec.call [] cb ?_ rfl ?_ ?_); (focus simp [-getElem?_pos, ]); (focus simp [-getElem?_pos, z0, z1, z2, ]); simp [-getElem?_pos, z0, z1, z2, ]
      repeat (first | (with_reducible refine AWp.seqK fun _ => ?_) | (with_reducible refine AWp.blockK fun _ => ?_) | (with_reducible refine KK.go ?_) | (refine AWp.reg tabOk ?_; simp [-getElem?_pos, z0, z1, z2, ]) | (refine AWp.condK fun _ _ => ?_; simp [-getElem?_pos, z0, z1, z2, ]) | (refine AWp.ret ?_; try simp only [thenP]) | (refine AWp.skip ?_; try simp only [thenP]) | (refine AWp.exit ?_; try simp only [thenP]) | (with_reducible refine AWp.scopeK fun _ => ?_) | (refine AWp.label ?_; try simp only [thenP]) | (with_reducible refine SS.go (fun _ h => by cases h) ?_; try simp only [blockP, thenP]) | (with_reducible refine BB.go ?_; simp only [blockP, thenP, if_true, if_false, reduceIte]) | (refine AWp.draws tabOk (by kernel_rfl) (by kernel_rfl) ?_; simp [-getElem?_pos, z0, z1, z2, ]) | (with_reducible refine And.intro (show okLog _ _ = true from by kernel_rfl) ?_))
      refine Exec0.callM [] cn (by simp [-getElem?_pos, ]) (by simp [-getElem?_pos, z0, z1, z2, ]) (by simp [or_imp, forall_and, ]) ⟨by rfl, by decide, by rfl⟩ ?_; simp [-getElem?_pos, z0, z1, z2, ]
      refine Exec0.callM [10] cc (by simp [-getElem?_pos, ]) (by simp [-getElem?_pos, z0, z1, z2, ]) (by simp [or_imp, forall_and, ]) ⟨by rfl, by decide, by rfl⟩ ?_; simp [-getElem?_pos, z0, z1, z2, ]
      repeat (first | (with_reducible refine AWp.seqK fun _ => ?_) | (with_reducible refine AWp.blockK fun _ => ?_) | (with_reducible refine KK.go ?_) | (refine AWp.reg tabOk ?_; simp [-getElem?_pos, z0, z1, z2, ]) | (refine AWp.condK fun _ _ => ?_; simp [-getElem?_pos, z0, z1, z2, ]) | (refine AWp.ret ?_; try simp only [thenP]) | (refine AWp.skip ?_; try simp only [thenP]) | (refine AWp.exit ?_; try simp only [thenP]) | (with_reducible refine AWp.scopeK fun _ => ?_) | (refine AWp.label ?_; try simp only [thenP]) | (with_reducible refine SS.go (fun _ h => by cases h) ?_; try simp only [blockP, thenP]) | (with_reducible refine BB.go ?_; simp only [blockP, thenP, if_true, if_false, reduceIte]) | (refine AWp.draws tabOk (by kernel_rfl) (by kernel_rfl) ?_; simp [-getElem?_pos, z0, z1, z2, ]) | (with_reducible refine And.intro (show okLog _ _ = true from by kernel_rfl) ?_))
      (first | refine RR.ret ?_ | refine RR.normal ?_); simp []
  · have hr' : clashD b = .tup [iD 0, iD 0, iD (bladeErr b)] := if_neg h0
    rw [hr']
    generalize bladeErr b = e at *
    refine acallK tabOk Try.func20 rfl rfl (show 1 ≤ _ by decide) rfl fun _ => ?_; simp only [Try.ntmps20]
    repeat (first | (with_reducible refine AWp.seqK fun _ => ?_) | (with_reducible refine AWp.blockK fun _ => ?_) | (with_reducible refine KK.go ?_) | (refine AWp.reg tabOk ?_; simp [-getElem?_pos, z0, z1, z2, ]) | (refine AWp.condK fun _ _ => ?_; simp [-getElem?_pos, z0, z1, z2, ]) | (refine AWp.ret ?_; try simp only [thenP]) | (refine AWp.skip ?_; try simp only [thenP]) | (refine AWp.exit ?_; try simp only [thenP]) | (with_reducible refine AWp.scopeK fun _ => ?_) | (refine AWp.label ?_; try simp only [thenP]) | (with_reducible refine SS.go (fun _ h => by cases h) ?_; try simp only [blockP, thenP]) | (with_reducible refine BB.go ?_; simp only [blockP, thenP, if_true, if_false, reduceIte]) | (refine AWp.draws tabOk (by kernel_rfl) (by kernel_rfl) ?_; simp [-getElem?_pos, z0, z1, z2, ]) | (with_reducible refine And.intro (show okLog _ _ = true from by kernel_rfl) ?_))
    (first | refine Exec0.call [] cb ?_ rfl ?_ ?_ | refine Exec.call [] cb ?_ rfl ?_ ?_); (focus simp [-getElem?_pos, ]); (focus simp [-getElem?_pos, z0, z1, z2, ]); simp [-getElem?_pos, z0, z1, z2, ]
    repeat (first | (with_reducible refine AWp.seqK fun _ => ?_) | (with_reducible refine AWp.blockK fun _ => ?_) | (with_reducible refine KK.go ?_) | (refine AWp.reg tabOk ?_; simp [-getElem?_pos, z0, z1, z2, h0]) | (refine AWp.condK fun _ _ => ?_; simp [-getElem?_pos, z0, z1, z2, h0]) | (refine AWp.ret ?_; try simp only [thenP]) | (refine AWp.skip ?_; try simp only [thenP]) | (refine AWp.exit ?_; try simp only [thenP]) | (with_reducible refine AWp.scopeK fun _ => ?_) | (refine AWp.label ?_; try simp only [thenP]) | (with_reducible refine SS.go (fun _ h => by cases h) ?_; try simp only [blockP, thenP]) | (with_reducible refine BB.go ?_; simp only [blockP, thenP, if_true, if_false, reduceIte]) | (refine AWp.draws tabOk (by kernel_rfl) (by kernel_rfl) ?_; simp [-getElem?_pos, z0, z1, z2, h0]) | (with_reducible refine And.intro (show okLog _ _ = true from by kernel_rfl) ?_))
    (first | refine RR.ret ?_ | refine RR.normal ?_); simp []
end Go.Proofs.Ytnhhlmikkmjenaa.Eng
