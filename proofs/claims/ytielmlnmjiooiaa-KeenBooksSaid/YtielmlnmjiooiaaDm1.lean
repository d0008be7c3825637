/-
  KeenBooks returns true, for every book and numbers: which books are valid, and which numbers are a truth, are what the definitions say, or the error. No condition.
-/
import Derived.Test.YtielmlnmjiooiaaDk22
import Derived.Test.YtielmlnmjiooiaaRows
import Derived.ProofKit
import Derived.OpenShut
import Derived.Below
import Derived.ChangeSame
import Derived.ReadAgain
import Derived.Deep.Slices
set_option linter.unusedSimpArgs false
set_option linter.unusedVariables false
/-
  Layer 5: books as data; the small functions of package keen.
-/
namespace Go.Proofs.Ytielmlnmjiooiaa.Eng
open Go.RowKit

structure KT where
  one : Int
  two : Int
  lo : Int
  hi : Int
structure Book where
  edges : Int
  ts : List KT
abbrev ktRow (t : KT) : List Dat := [iD t.one, iD t.two, iD t.lo, iD t.hi]
def ktRows (l : List KT) : List (List Dat) := l.map ktRow
@[simp] theorem ktRows_len (l : List KT) : (ktRows l).length = l.length := List.length_map _
@[simp] theorem ktRows_get (l : List KT) (i : Nat) : (ktRows l)[i]? = (l[i]?).map ktRow := List.getElem?_map
abbrev bookD (b : Book) : Dat := .agg [iD b.edges, .list (ktRows b.ts)]
def inK (n lo hi : Int) : Bool := decide (lo ≤ n ∧ n ≤ hi)
def fromK (lo hi : Int) (l : List Int) : Bool := l.all fun x => inK x lo hi
theorem allK_take {α : Type} {l : List α} {k : Nat} {x : α} (h : l[k]? = some x) (p : α → Bool) : (l.take (k + 1)).all p = ((l.take k).all p && p x) := by
  obtain ⟨hk, rfl⟩ := List.getElem?_eq_some_iff.1 h
  rw [List.take_succ_eq_append_getElem hk, List.all_append]
  simp
theorem allK_not {α : Type} {l : List α} {k : Nat} {x : α} (h : l[k]? = some x) {p : α → Bool} (hp : p x = false) : l.all p = false := by
  rw [List.all_eq_false]
  exact ⟨x, List.mem_of_getElem? h, by simp [hp]⟩
set_option maxRecDepth 100000 in
set_option maxHeartbeats 4000000 in
theorem areFromI_c (lo hi : Int) (l : List Int) (hl : l.length ≤ 1000000) : ACall Try.prog 54 [iD lo, iD hi, intL l] (bD (fromK lo hi l)) := by
  obtain ⟨r, hr⟩ : ∃ r, r = fromK lo hi l := ⟨_, rfl⟩
  rw [← hr]
  refine acallK tabOk Try.func54 rfl rfl (show 3 ≤ _ by decide) rfl fun _ => ?_; simp only [Try.ntmps54]
  repeat (first | (with_reducible refine AWp.seqK fun _ => ?_) | (with_reducible refine AWp.blockK fun _ => ?_) | (with_reducible refine KK.go ?_) | (refine AWp.reg tabOk ?_; simp [-getElem?_pos, z0, z1, z2, ]) | (refine AWp.condK fun _ _ => ?_; simp [-getElem?_pos, z0, z1, z2, ]) | (refine AWp.ret ?_; try simp only [thenP]) | (refine AWp.skip ?_; try simp only [thenP]) | (refine AWp.exit ?_; try simp only [thenP]) | (with_reducible refine AWp.scopeK fun _ => ?_) | (refine AWp.label ?_; try simp only [thenP]) | (with_reducible refine SS.go (fun _ h => by cases h) ?_; try simp only [blockP, thenP]) | (with_reducible refine BB.go ?_; simp only [blockP, thenP, if_true, if_false, reduceIte]) | (refine AWp.draws tabOk (by kernel_rfl) (by kernel_rfl) ?_; simp [-getElem?_pos, z0, z1, z2, ]) | (with_reducible refine And.intro (show okLog _ _ = true from by kernel_rfl) ?_))
  refine AWp.loopK (ι := { k : Nat // k ≤ l.length ∧ fromK lo hi (l.take k) = true }) (n := 0) (fun k => [(0, .d (iD lo)), (1, .d (iD hi)), (9, .d (intL l)), (10, .d (iD l.length)), (11, .d (iD k.1))]) (fun _ => []) (fun k => l.length - k.1) ⟨0, Nat.zero_le _, by simp [fromK]⟩ [] ?_ ?_
  · refine ⟨by rfl, by simp [], by simp [or_imp, forall_and, ] <;> (try (intro _hne; simp [_hne])), by decide⟩
  rintro ⟨k, hk, hall⟩ kk
  have w1 : IntKind.i64.wrap ((k : Int) + 1) = (k : Int) + 1 := wrap64_in (by omega)
  by_cases hlt : k < l.length
  · obtain ⟨x, hx⟩ : ∃ x, l[k]? = some x := ⟨_, List.getElem?_eq_getElem hlt⟩
    by_cases g : x < lo
    · have hr' : r = false := by rw [hr]; exact allK_not hx (p := fun x => inK x lo hi) (decide_eq_false fun h => by omega)
      repeat (first | (with_reducible refine AWp.seqK fun _ => ?_) | (with_reducible refine AWp.blockK fun _ => ?_) | (with_reducible refine KK.go ?_) | (refine AWp.reg tabOk ?_; simp [-getElem?_pos, z0, z1, z2, hlt, hx, g]) | (refine AWp.condK fun _ _ => ?_; simp [-getElem?_pos, z0, z1, z2, hlt, hx, g]) | (refine AWp.ret ?_; try simp only [thenP]) | (refine AWp.skip ?_; try simp only [thenP]) | (refine AWp.exit ?_; try simp only [thenP]) | (with_reducible refine AWp.scopeK fun _ => ?_) | (refine AWp.label ?_; try simp only [thenP]) | (with_reducible refine SS.go (fun _ h => by cases h) ?_; try simp only [blockP, thenP]) | (with_reducible refine BB.go ?_; simp only [blockP, thenP, if_true, if_false, reduceIte]) | (refine AWp.draws tabOk (by kernel_rfl) (by kernel_rfl) ?_; simp [-getElem?_pos, z0, z1, z2, hlt, hx, g]) | (with_reducible refine And.intro (show okLog _ _ = true from by kernel_rfl) ?_))
      (first | refine RR.ret ?_ | refine RR.normal ?_); simp [hr']
    by_cases g2 : hi < x
    · have hr' : r = false := by rw [hr]; exact allK_not hx (p := fun x => inK x lo hi) (decide_eq_false fun h => by omega)
      repeat (first | (with_reducible refine AWp.seqK fun _ => ?_) | (with_reducible refine AWp.blockK fun _ => ?_) | (with_reducible refine KK.go ?_) | (refine AWp.reg tabOk ?_; simp [-getElem?_pos, z0, z1, z2, hlt, hx, g, g2]) | (refine AWp.condK fun _ _ => ?_; simp [-getElem?_pos, z0, z1, z2, hlt, hx, g, g2]) | (refine AWp.ret ?_; try simp only [thenP]) | (refine AWp.skip ?_; try simp only [thenP]) | (refine AWp.exit ?_; try simp only [thenP]) | (with_reducible refine AWp.scopeK fun _ => ?_) | (refine AWp.label ?_; try simp only [thenP]) | (with_reducible refine SS.go (fun _ h => by cases h) ?_; try simp only [blockP, thenP]) | (with_reducible refine BB.go ?_; simp only [blockP, thenP, if_true, if_false, reduceIte]) | (refine AWp.draws tabOk (by kernel_rfl) (by kernel_rfl) ?_; simp [-getElem?_pos, z0, z1, z2, hlt, hx, g, g2]) | (with_reducible refine And.intro (show okLog _ _ = true from by kernel_rfl) ?_))
      (first | refine RR.ret ?_ | refine RR.normal ?_); simp [hr']
    · have hall2 : fromK lo hi (l.take (k + 1)) = true := by
        unfold fromK at hall ⊢
        rw [allK_take hx, hall, Bool.true_and]
        exact decide_eq_true ⟨by omega, by omega⟩
      repeat (first | (with_reducible refine AWp.seqK fun _ => ?_) | (with_reducible refine AWp.blockK fun _ => ?_) | (with_reducible refine KK.go ?_) | (refine AWp.reg tabOk ?_; simp [-getElem?_pos, z0, z1, z2, hlt, hx, g, g2, w1]) | (refine AWp.condK fun _ _ => ?_; simp [-getElem?_pos, z0, z1, z2, hlt, hx, g, g2, w1]) | (refine AWp.ret ?_; try simp only [thenP]) | (refine AWp.skip ?_; try simp only [thenP]) | (refine AWp.exit ?_; try simp only [thenP]) | (with_reducible refine AWp.scopeK fun _ => ?_) | (refine AWp.label ?_; try simp only [thenP]) | (with_reducible refine SS.go (fun _ h => by cases h) ?_; try simp only [blockP, thenP]) | (with_reducible refine BB.go ?_; simp only [blockP, thenP, if_true, if_false, reduceIte]) | (refine AWp.draws tabOk (by kernel_rfl) (by kernel_rfl) ?_; simp [-getElem?_pos, z0, z1, z2, hlt, hx, g, g2, w1]) | (with_reducible refine And.intro (show okLog _ _ = true from by kernel_rfl) ?_))
      refine LL.go ⟨k + 1, hlt, hall2⟩ [] ⟨by rfl, by simp [], by simp [or_imp, forall_and, ] <;> (try (intro _hne; simp [_hne])), by decide⟩ ?_
      simp; omega
  · obtain rfl : k = l.length := by omega
    rw [List.take_of_length_le (Nat.le_refl _)] at hall
    have hr' : r = true := hr.trans hall
    repeat (first | (with_reducible refine AWp.seqK fun _ => ?_) | (with_reducible refine AWp.blockK fun _ => ?_) | (with_reducible refine KK.go ?_) | (refine AWp.reg tabOk ?_; simp [-getElem?_pos, z0, z1, z2, hlt]) | (refine AWp.condK fun _ _ => ?_; simp [-getElem?_pos, z0, z1, z2, hlt]) | (refine AWp.ret ?_; try simp only [thenP]) | (refine AWp.skip ?_; try simp only [thenP]) | (refine AWp.exit ?_; try simp only [thenP]) | (with_reducible refine AWp.scopeK fun _ => ?_) | (refine AWp.label ?_; try simp only [thenP]) | (with_reducible refine SS.go (fun _ h => by cases h) ?_; try simp only [blockP, thenP]) | (with_reducible refine BB.go ?_; simp only [blockP, thenP, if_true, if_false, reduceIte]) | (refine AWp.draws tabOk (by kernel_rfl) (by kernel_rfl) ?_; simp [-getElem?_pos, z0, z1, z2, hlt]) | (with_reducible refine And.intro (show okLog _ _ = true from by kernel_rfl) ?_))
    (first | refine RR.ret ?_ | refine RR.normal ?_); simp [hr']
set_option maxRecDepth 100000 in
set_option maxHeartbeats 4000000 in
theorem areFromJ_c (lo hi : Int) (l : List Int) (hl : l.length ≤ 1000000) : ACall Try.prog 57 [iD lo, iD hi, intL l] (bD (fromK lo hi l)) := by
  obtain ⟨r, hr⟩ : ∃ r, r = fromK lo hi l := ⟨_, rfl⟩
  rw [← hr]
  refine acallK tabOk Try.func57 rfl rfl (show 3 ≤ _ by decide) rfl fun _ => ?_; simp only [Try.ntmps57]
  repeat (first | (with_reducible refine AWp.seqK fun _ => ?_) | (with_reducible refine AWp.blockK fun _ => ?_) | (with_reducible refine KK.go ?_) | (refine AWp.reg tabOk ?_; simp [-getElem?_pos, z0, z1, z2, ]) | (refine AWp.condK fun _ _ => ?_; simp [-getElem?_pos, z0, z1, z2, ]) | (refine AWp.ret ?_; try simp only [thenP]) | (refine AWp.skip ?_; try simp only [thenP]) | (refine AWp.exit ?_; try simp only [thenP]) | (with_reducible refine AWp.scopeK fun _ => ?_) | (refine AWp.label ?_; try simp only [thenP]) | (with_reducible refine SS.go (fun _ h => by cases h) ?_; try simp only [blockP, thenP]) | (with_reducible refine BB.go ?_; simp only [blockP, thenP, if_true, if_false, reduceIte]) | (refine AWp.draws tabOk (by kernel_rfl) (by kernel_rfl) ?_; simp [-getElem?_pos, z0, z1, z2, ]) | (with_reducible refine And.intro (show okLog _ _ = true from by kernel_rfl) ?_))
  refine AWp.loopK (ι := { k : Nat // k ≤ l.length ∧ fromK lo hi (l.take k) = true }) (n := 0) (fun k => [(0, .d (iD lo)), (1, .d (iD hi)), (9, .d (intL l)), (10, .d (iD l.length)), (11, .d (iD k.1))]) (fun _ => []) (fun k => l.length - k.1) ⟨0, Nat.zero_le _, by simp [fromK]⟩ [] ?_ ?_
  · refine ⟨by rfl, by simp [], by simp [or_imp, forall_and, ] <;> (try (intro _hne; simp [_hne])), by decide⟩
  rintro ⟨k, hk, hall⟩ kk
  have w1 : IntKind.i64.wrap ((k : Int) + 1) = (k : Int) + 1 := wrap64_in (by omega)
  by_cases hlt : k < l.length
  · obtain ⟨x, hx⟩ : ∃ x, l[k]? = some x := ⟨_, List.getElem?_eq_getElem hlt⟩
    by_cases g : x < lo
    · have hr' : r = false := by rw [hr]; exact allK_not hx (p := fun x => inK x lo hi) (decide_eq_false fun h => by omega)
      repeat (first | (with_reducible refine AWp.seqK fun _ => ?_) | (with_reducible refine AWp.blockK fun _ => ?_) | (with_reducible refine KK.go ?_) | (refine AWp.reg tabOk ?_; simp [-getElem?_pos, z0, z1, z2, hlt, hx, g]) | (refine AWp.condK fun _ _ => ?_; simp [-getElem?_pos, z0, z1, z2, hlt, hx, g]) | (refine AWp.ret ?_; try simp only [thenP]) | (refine AWp.skip ?_; try simp only [thenP]) | (refine AWp.exit ?_; try simp only [thenP]) | (with_reducible refine AWp.scopeK fun _ => ?_) | (refine AWp.label ?_; try simp only [thenP]) | (with_reducible refine SS.go (fun _ h => by cases h) ?_; try simp only [blockP, thenP]) | (with_reducible refine BB.go ?_; simp only [blockP, thenP, if_true, if_false, reduceIte]) | (refine AWp.draws tabOk (by kernel_rfl) (by kernel_rfl) ?_; simp [-getElem?_pos, z0, z1, z2, hlt, hx, g]) | (with_reducible refine And.intro (show okLog _ _ = true from by kernel_rfl) ?_))
      (first | refine RR.ret ?_ | refine RR.normal ?_); simp [hr']
    by_cases g2 : hi < x
    · have hr' : r = false := by rw [hr]; exact allK_not hx (p := fun x => inK x lo hi) (decide_eq_false fun h => by omega)
      repeat (first | (with_reducible refine AWp.seqK fun _ => ?_) | (with_reducible refine AWp.blockK fun _ => ?_) | (with_reducible refine KK.go ?_) | (refine AWp.reg tabOk ?_; simp [-getElem?_pos, z0, z1, z2, hlt, hx, g, g2]) | (refine AWp.condK fun _ _ => ?_; simp [-getElem?_pos, z0, z1, z2, hlt, hx, g, g2]) | (refine AWp.ret ?_; try simp only [thenP]) | (refine AWp.skip ?_; try simp only [thenP]) | (refine AWp.exit ?_; try simp only [thenP]) | (with_reducible refine AWp.scopeK fun _ => ?_) | (refine AWp.label ?_; try simp only [thenP]) | (with_reducible refine SS.go (fun _ h => by cases h) ?_; try simp only [blockP, thenP]) | (with_reducible refine BB.go ?_; simp only [blockP, thenP, if_true, if_false, reduceIte]) | (refine AWp.draws tabOk (by kernel_rfl) (by kernel_rfl) ?_; simp [-getElem?_pos, z0, z1, z2, hlt, hx, g, g2]) | (with_reducible refine And.intro (show okLog _ _ = true from by kernel_rfl) ?_))
      (first | refine RR.ret ?_ | refine RR.normal ?_); simp [hr']
    · have hall2 : fromK lo hi (l.take (k + 1)) = true := by
        unfold fromK at hall ⊢
        rw [allK_take hx, hall, Bool.true_and]
        exact decide_eq_true ⟨by omega, by omega⟩
      repeat (first | (with_reducible refine AWp.seqK fun _ => ?_) | (with_reducible refine AWp.blockK fun _ => ?_) | (with_reducible refine KK.go ?_) | (refine AWp.reg tabOk ?_; simp [-getElem?_pos, z0, z1, z2, hlt, hx, g, g2, w1]) | (refine AWp.condK fun _ _ => ?_; simp [-getElem?_pos, z0, z1, z2, hlt, hx, g, g2, w1]) | (refine AWp.ret ?_; try simp only [thenP]) | (refine AWp.skip ?_; try simp only [thenP]) | (refine AWp.exit ?_; try simp only [thenP]) | (with_reducible refine AWp.scopeK fun _ => ?_) | (refine AWp.label ?_; try simp only [thenP]) | (with_reducible refine SS.go (fun _ h => by cases h) ?_; try simp only [blockP, thenP]) | (with_reducible refine BB.go ?_; simp only [blockP, thenP, if_true, if_false, reduceIte]) | (refine AWp.draws tabOk (by kernel_rfl) (by kernel_rfl) ?_; simp [-getElem?_pos, z0, z1, z2, hlt, hx, g, g2, w1]) | (with_reducible refine And.intro (show okLog _ _ = true from by kernel_rfl) ?_))
      refine LL.go ⟨k + 1, hlt, hall2⟩ [] ⟨by rfl, by simp [], by simp [or_imp, forall_and, ] <;> (try (intro _hne; simp [_hne])), by decide⟩ ?_
      simp; omega
  · obtain rfl : k = l.length := by omega
    rw [List.take_of_length_le (Nat.le_refl _)] at hall
    have hr' : r = true := hr.trans hall
    repeat (first | (with_reducible refine AWp.seqK fun _ => ?_) | (with_reducible refine AWp.blockK fun _ => ?_) | (with_reducible refine KK.go ?_) | (refine AWp.reg tabOk ?_; simp [-getElem?_pos, z0, z1, z2, hlt]) | (refine AWp.condK fun _ _ => ?_; simp [-getElem?_pos, z0, z1, z2, hlt]) | (refine AWp.ret ?_; try simp only [thenP]) | (refine AWp.skip ?_; try simp only [thenP]) | (refine AWp.exit ?_; try simp only [thenP]) | (with_reducible refine AWp.scopeK fun _ => ?_) | (refine AWp.label ?_; try simp only [thenP]) | (with_reducible refine SS.go (fun _ h => by cases h) ?_; try simp only [blockP, thenP]) | (with_reducible refine BB.go ?_; simp only [blockP, thenP, if_true, if_false, reduceIte]) | (refine AWp.draws tabOk (by kernel_rfl) (by kernel_rfl) ?_; simp [-getElem?_pos, z0, z1, z2, hlt]) | (with_reducible refine And.intro (show okLog _ _ = true from by kernel_rfl) ?_))
    (first | refine RR.ret ?_ | refine RR.normal ?_); simp [hr']
/-- Where a number stands first in a list, from k on. -/
def idxK (v : Int) (l : List Int) : Int := match l.findIdx? (· == v) with
  | some i => i
  | none => -1
theorem idxK_some {v : Int} {l : List Int} {k : Nat} (h : l[k]? = some v) (hall : (l.take k).all (· != v) = true) : idxK v l = k := by
  obtain ⟨hk, rfl⟩ := List.getElem?_eq_some_iff.1 h
  unfold idxK
  have : l.findIdx? (· == l[k]) = some k := by
    rw [List.findIdx?_eq_some_iff_getElem]
    refine ⟨hk, by simp, fun j hj => ?_⟩
    have := List.all_eq_true.1 hall l[j] (List.mem_of_getElem? (by rw [List.getElem?_take, if_pos hj, List.getElem?_eq_getElem (by omega)]))
    simpa using this
  rw [this]
theorem idxK_none {v : Int} {l : List Int} (hall : l.all (· != v) = true) : idxK v l = -1 := by
  unfold idxK
  have : l.findIdx? (· == v) = none := by
    rw [List.findIdx?_eq_none_iff]
    intro x hx
    have := List.all_eq_true.1 hall x hx
    simpa using this
  rw [this]
set_option maxRecDepth 100000 in
set_option maxHeartbeats 4000000 in
theorem index_c (l : List Int) (v : Int) (hl : l.length ≤ 1000000) : ACall Try.prog 96 [intL l, iD v] (iD (idxK v l)) := by
  obtain ⟨r, hr⟩ : ∃ r, r = idxK v l := ⟨_, rfl⟩
  rw [← hr]
  refine acallK tabOk Try.func96 rfl rfl (show 2 ≤ _ by decide) rfl fun _ => ?_; simp only [Try.ntmps96]
  repeat (first | (with_reducible refine AWp.seqK fun _ => ?_) | (with_reducible refine AWp.blockK fun _ => ?_) | (with_reducible refine KK.go ?_) | (refine AWp.reg tabOk ?_; simp [-getElem?_pos, z0, z1, z2, ]) | (refine AWp.condK fun _ _ => ?_; simp [-getElem?_pos, z0, z1, z2, ]) | (refine AWp.ret ?_; try simp only [thenP]) | (refine AWp.skip ?_; try simp only [thenP]) | (refine AWp.exit ?_; try simp only [thenP]) | (with_reducible refine AWp.scopeK fun _ => ?_) | (refine AWp.label ?_; try simp only [thenP]) | (with_reducible refine SS.go (fun _ h => by cases h) ?_; try simp only [blockP, thenP]) | (with_reducible refine BB.go ?_; simp only [blockP, thenP, if_true, if_false, reduceIte]) | (refine AWp.draws tabOk (by kernel_rfl) (by kernel_rfl) ?_; simp [-getElem?_pos, z0, z1, z2, ]) | (with_reducible refine And.intro (show okLog _ _ = true from by kernel_rfl) ?_))
  refine AWp.loopK (ι := { k : Nat // k ≤ l.length ∧ (l.take k).all (· != v) = true }) (n := 0) (fun k => [(0, .d (intL l)), (1, .d (iD v)), (7, .d (iD l.length)), (8, .d (iD k.1))]) (fun _ => []) (fun k => l.length - k.1) ⟨0, Nat.zero_le _, by simp⟩ [] ?_ ?_
  · refine ⟨by rfl, by simp [], by simp [or_imp, forall_and, ] <;> (try (intro _hne; simp [_hne])), by decide⟩
  rintro ⟨k, hk, hall⟩ kk
  have w1 : IntKind.i64.wrap ((k : Int) + 1) = (k : Int) + 1 := wrap64_in (by omega)
  by_cases hlt : k < l.length
  · obtain ⟨x, hx⟩ : ∃ x, l[k]? = some x := ⟨_, List.getElem?_eq_getElem hlt⟩
    by_cases g : v = x
    · subst g
      have hr' : r = (k : Int) := hr.trans (idxK_some hx hall)
      repeat (first | (with_reducible refine AWp.seqK fun _ => ?_) | (with_reducible refine AWp.blockK fun _ => ?_) | (with_reducible refine KK.go ?_) | (refine AWp.reg tabOk ?_; simp [-getElem?_pos, z0, z1, z2, hlt, hx]) | (refine AWp.condK fun _ _ => ?_; simp [-getElem?_pos, z0, z1, z2, hlt, hx]) | (refine AWp.ret ?_; try simp only [thenP]) | (refine AWp.skip ?_; try simp only [thenP]) | (refine AWp.exit ?_; try simp only [thenP]) | (with_reducible refine AWp.scopeK fun _ => ?_) | (refine AWp.label ?_; try simp only [thenP]) | (with_reducible refine SS.go (fun _ h => by cases h) ?_; try simp only [blockP, thenP]) | (with_reducible refine BB.go ?_; simp only [blockP, thenP, if_true, if_false, reduceIte]) | (refine AWp.draws tabOk (by kernel_rfl) (by kernel_rfl) ?_; simp [-getElem?_pos, z0, z1, z2, hlt, hx]) | (with_reducible refine And.intro (show okLog _ _ = true from by kernel_rfl) ?_))
      (first | refine RR.ret ?_ | refine RR.normal ?_); simp [hr']
    · have hall2 : (l.take (k + 1)).all (· != v) = true := by
        rw [allK_take hx, hall, Bool.true_and]
        simpa using fun h => g h.symm
      repeat (first | (with_reducible refine AWp.seqK fun _ => ?_) | (with_reducible refine AWp.blockK fun _ => ?_) | (with_reducible refine KK.go ?_) | (refine AWp.reg tabOk ?_; simp [-getElem?_pos, z0, z1, z2, hlt, hx, g, w1]) | (refine AWp.condK fun _ _ => ?_; simp [-getElem?_pos, z0, z1, z2, hlt, hx, g, w1]) | (refine AWp.ret ?_; try simp only [thenP]) | (refine AWp.skip ?_; try simp only [thenP]) | (refine AWp.exit ?_; try simp only [thenP]) | (with_reducible refine AWp.scopeK fun _ => ?_) | (refine AWp.label ?_; try simp only [thenP]) | (with_reducible refine SS.go (fun _ h => by cases h) ?_; try simp only [blockP, thenP]) | (with_reducible refine BB.go ?_; simp only [blockP, thenP, if_true, if_false, reduceIte]) | (refine AWp.draws tabOk (by kernel_rfl) (by kernel_rfl) ?_; simp [-getElem?_pos, z0, z1, z2, hlt, hx, g, w1]) | (with_reducible refine And.intro (show okLog _ _ = true from by kernel_rfl) ?_))
      refine LL.go ⟨k + 1, hlt, hall2⟩ [] ⟨by rfl, by simp [], by simp [or_imp, forall_and, ] <;> (try (intro _hne; simp [_hne])), by decide⟩ ?_
      simp; omega
  · obtain rfl : k = l.length := by omega
    rw [List.take_of_length_le (Nat.le_refl _)] at hall
    have hr' : r = -1 := hr.trans (idxK_none hall)
    repeat (first | (with_reducible refine AWp.seqK fun _ => ?_) | (with_reducible refine AWp.blockK fun _ => ?_) | (with_reducible refine KK.go ?_) | (refine AWp.reg tabOk ?_; simp [-getElem?_pos, z0, z1, z2, hlt]) | (refine AWp.condK fun _ _ => ?_; simp [-getElem?_pos, z0, z1, z2, hlt]) | (refine AWp.ret ?_; try simp only [thenP]) | (refine AWp.skip ?_; try simp only [thenP]) | (refine AWp.exit ?_; try simp only [thenP]) | (with_reducible refine AWp.scopeK fun _ => ?_) | (refine AWp.label ?_; try simp only [thenP]) | (with_reducible refine SS.go (fun _ h => by cases h) ?_; try simp only [blockP, thenP]) | (with_reducible refine BB.go ?_; simp only [blockP, thenP, if_true, if_false, reduceIte]) | (refine AWp.draws tabOk (by kernel_rfl) (by kernel_rfl) ?_; simp [-getElem?_pos, z0, z1, z2, hlt]) | (with_reducible refine And.intro (show okLog _ _ = true from by kernel_rfl) ?_))
    (first | refine RR.ret ?_ | refine RR.normal ?_); simp [hr']
theorem idxK_has (v : Int) (l : List Int) : (0 ≤ idxK v l) ↔ v ∈ l := by
  unfold idxK
  cases h : l.findIdx? (· == v) with
  | none =>
    rw [List.findIdx?_eq_none_iff] at h
    simp only
    constructor
    · intro h; omega
    · intro hv; have := h v hv; simp at this
  | some i =>
    rw [List.findIdx?_eq_some_iff_getElem] at h
    obtain ⟨hi, h1, _⟩ := h
    simp only
    constructor
    · intro _
      have : l[i] = v := by simpa using h1
      rw [← this]
      exact List.getElem_mem hi
    · intro _; omega
theorem contains_c (l : List Int) (v : Int) (hl : l.length ≤ 1000000) : ACall Try.prog 80 [intL l, iD v] (bD (decide (v ∈ l))) := by
  have ci := index_c l v hl
  have hh := idxK_has v l
  generalize idxK v l = n at *
  by_cases g : v ∈ l
  · rw [decide_eq_true g]
    have g' := hh.2 g
    refine acallK tabOk Try.func80 rfl rfl (show 2 ≤ _ by decide) rfl fun _ => ?_; simp only [Try.ntmps80]
    repeat (first | (with_reducible refine AWp.seqK fun _ => ?_) | (with_reducible refine AWp.blockK fun _ => ?_) | (with_reducible refine KK.go ?_) | (refine AWp.reg tabOk ?_; simp [-getElem?_pos, z0, z1, z2, ]) | (refine AWp.condK fun _ _ => ?_; simp [-getElem?_pos, z0, z1, z2, ]) | (refine AWp.ret ?_; try simp only [thenP]) | (refine AWp.skip ?_; try simp only [thenP]) | (refine AWp.exit ?_; try simp only [thenP]) | (with_reducible refine AWp.scopeK fun _ => ?_) | (refine AWp.label ?_; try simp only [thenP]) | (with_reducible refine SS.go (fun _ h => by cases h) ?_; try simp only [blockP, thenP]) | (with_reducible refine BB.go ?_; simp only [blockP, thenP, if_true, if_false, reduceIte]) | (refine AWp.draws tabOk (by kernel_rfl) (by kernel_rfl) ?_; simp [-getElem?_pos, z0, z1, z2, ]) | (with_reducible refine And.intro (show okLog _ _ = true from by kernel_rfl) ?_))
    (first | refine Exec0.call [] ci ?_ rfl ?_ ?_ | refine Exec.call [] ci ?_ rfl ?_ ?_); (focus simp [-getElem?_pos, g']); (focus simp [-getElem?_pos, z0, z1, z2, g']); simp [-getElem?_pos, z0, z1, z2, g']
    repeat (first | (with_reducible refine AWp.seqK fun _ => ?_) | (with_reducible refine AWp.blockK fun _ => ?_) | (with_reducible refine KK.go ?_) | (refine AWp.reg tabOk ?_; simp [-getElem?_pos, z0, z1, z2, g']) | (refine AWp.condK fun _ _ => ?_; simp [-getElem?_pos, z0, z1, z2, g']) | (refine AWp.ret ?_; try simp only [thenP]) | (refine AWp.skip ?_; try simp only [thenP]) | (refine AWp.exit ?_; try simp only [thenP]) | (with_reducible refine AWp.scopeK fun _ => ?_) | (refine AWp.label ?_; try simp only [thenP]) | (with_reducible refine SS.go (fun _ h => by cases h) ?_; try simp only [blockP, thenP]) | (with_reducible refine BB.go ?_; simp only [blockP, thenP, if_true, if_false, reduceIte]) | (refine AWp.draws tabOk (by kernel_rfl) (by kernel_rfl) ?_; simp [-getElem?_pos, z0, z1, z2, g']) | (with_reducible refine And.intro (show okLog _ _ = true from by kernel_rfl) ?_))
    (first | refine RR.ret ?_ | refine RR.normal ?_); simp [g']
  · rw [decide_eq_false g]
    have g' : ¬ 0 ≤ n := fun h => g (hh.1 h)
    refine acallK tabOk Try.func80 rfl rfl (show 2 ≤ _ by decide) rfl fun _ => ?_; simp only [Try.ntmps80]
    repeat (first | (with_reducible refine AWp.seqK fun _ => ?_) | (with_reducible refine AWp.blockK fun _ => ?_) | (with_reducible refine KK.go ?_) | (refine AWp.reg tabOk ?_; simp [-getElem?_pos, z0, z1, z2, ]) | (refine AWp.condK fun _ _ => ?_; simp [-getElem?_pos, z0, z1, z2, ]) | (refine AWp.ret ?_; try simp only [thenP]) | (refine AWp.skip ?_; try simp only [thenP]) | (refine AWp.exit ?_; try simp only [thenP]) | (with_reducible refine AWp.scopeK fun _ => ?_) | (refine AWp.label ?_; try simp only [thenP]) | (with_reducible refine SS.go (fun _ h => by cases h) ?_; try simp only [blockP, thenP]) | (with_reducible refine BB.go ?_; simp only [blockP, thenP, if_true, if_false, reduceIte]) | (refine AWp.draws tabOk (by kernel_rfl) (by kernel_rfl) ?_; simp [-getElem?_pos, z0, z1, z2, ]) | (with_reducible refine And.intro (show okLog _ _ = true from by kernel_rfl) ?_))
    (first | refine Exec0.call [] ci ?_ rfl ?_ ?_ | refine Exec.call [] ci ?_ rfl ?_ ?_); (focus simp [-getElem?_pos, g']); (focus simp [-getElem?_pos, z0, z1, z2, g']); simp [-getElem?_pos, z0, z1, z2, g']
    repeat (first | (with_reducible refine AWp.seqK fun _ => ?_) | (with_reducible refine AWp.blockK fun _ => ?_) | (with_reducible refine KK.go ?_) | (refine AWp.reg tabOk ?_; simp [-getElem?_pos, z0, z1, z2, g']) | (refine AWp.condK fun _ _ => ?_; simp [-getElem?_pos, z0, z1, z2, g']) | (refine AWp.ret ?_; try simp only [thenP]) | (refine AWp.skip ?_; try simp only [thenP]) | (refine AWp.exit ?_; try simp only [thenP]) | (with_reducible refine AWp.scopeK fun _ => ?_) | (refine AWp.label ?_; try simp only [thenP]) | (with_reducible refine SS.go (fun _ h => by cases h) ?_; try simp only [blockP, thenP]) | (with_reducible refine BB.go ?_; simp only [blockP, thenP, if_true, if_false, reduceIte]) | (refine AWp.draws tabOk (by kernel_rfl) (by kernel_rfl) ?_; simp [-getElem?_pos, z0, z1, z2, g']) | (with_reducible refine And.intro (show okLog _ _ = true from by kernel_rfl) ?_))
    (first | refine RR.ret ?_ | refine RR.normal ?_); simp [g']
end Go.Proofs.Ytielmlnmjiooiaa.Eng

/-
  Layer 5: which books are valid, in package keen and in the reference.
-/
namespace Go.Proofs.Ytielmlnmjiooiaa.Eng
open Go.RowKit

/-- No one of the first ones stands before itself. -/
def freshTo (l : List Int) : Nat → Bool
  | 0 => true
  | k + 1 => freshTo l k && decide (l.getD k 0 ∉ l.take k)
theorem freshTo_succ {l : List Int} {k : Nat} {x : Int} (h : l[k]? = some x) : freshTo l (k + 1) = (freshTo l k && decide (x ∉ l.take k)) := by simp [freshTo, List.getD_eq_getElem?_getD, h]
theorem freshTo_not {l : List Int} {k : Nat} (h : freshTo l k = false) : ∀ n, k ≤ n → freshTo l n = false
  | 0, g => by obtain rfl : k = 0 := by omega
               exact h
  | n + 1, g => by
    rcases Nat.lt_or_ge n k with g2 | g2
    · obtain rfl : k = n + 1 := by omega
      exact h
    · simp [freshTo, freshTo_not h n g2]
def edgesK (e : Int) (l : List Int) : Bool := freshTo l l.length && fromK 0 (e - 1) l
theorem iRows_take (l : List Int) (k : Nat) : (iRows l).take k = iRows (l.take k) := by simp [iRows, List.map_take]
set_option maxRecDepth 100000 in
set_option maxHeartbeats 4000000 in
theorem areEdges_c (b : Book) (l : List Int) (he : -1000000 ≤ b.edges ∧ b.edges ≤ 1000000) (hl : l.length ≤ 1000000) : ACall Try.prog 55 [bookD b, intL l] (bD (edgesK b.edges l)) := by
  obtain ⟨r, hr⟩ : ∃ r, r = edgesK b.edges l := ⟨_, rfl⟩
  have cf := areFromI_c 0 (b.edges - 1) l hl
  have we : IntKind.i64.wrap (b.edges - 1) = b.edges - 1 := wrap64_in (by omega)
  rw [← hr]
  refine acallK tabOk Try.func55 rfl rfl (show 2 ≤ _ by decide) rfl fun _ => ?_; simp only [Try.ntmps55]
  repeat (first | (with_reducible refine AWp.seqK fun _ => ?_) | (with_reducible refine AWp.blockK fun _ => ?_) | (with_reducible refine KK.go ?_) | (refine AWp.reg tabOk ?_; simp [-getElem?_pos, z0, z1, z2, ]) | (refine AWp.condK fun _ _ => ?_; simp [-getElem?_pos, z0, z1, z2, ]) | (refine AWp.ret ?_; try simp only [thenP]) | (refine AWp.skip ?_; try simp only [thenP]) | (refine AWp.exit ?_; try simp only [thenP]) | (with_reducible refine AWp.scopeK fun _ => ?_) | (refine AWp.label ?_; try simp only [thenP]) | (with_reducible refine SS.go (fun _ h => by cases h) ?_; try simp only [blockP, thenP]) | (with_reducible refine BB.go ?_; simp only [blockP, thenP, if_true, if_false, reduceIte]) | (refine AWp.draws tabOk (by kernel_rfl) (by kernel_rfl) ?_; simp [-getElem?_pos, z0, z1, z2, ]) | (with_reducible refine And.intro (show okLog _ _ = true from by kernel_rfl) ?_))
  refine AWp.loopK (ι := { k : Nat // k ≤ l.length ∧ freshTo l k = true }) (n := 1) (fun k => [(1, .d (intL l)), (2, .ptr 0 0 0), (7, .d (intL l)), (8, .d (iD l.length)), (9, .d (iD k.1))]) (fun _ => [(0, .box 24 [.d (iD b.edges), .d (.list (ktRows b.ts))] false)]) (fun k => l.length - k.1) ⟨0, Nat.zero_le _, rfl⟩ [0] ?_ ?_
  · refine ⟨by rfl, by simp [], by simp [or_imp, forall_and, ] <;> (try (intro _hne; simp [_hne])), by decide⟩
  rintro ⟨k, hk, hall⟩ kk
  have w1 : IntKind.i64.wrap ((k : Int) + 1) = (k : Int) + 1 := wrap64_in (by omega)
  by_cases hlt : k < l.length
  · obtain ⟨x, hx⟩ : ∃ x, l[k]? = some x := ⟨_, List.getElem?_eq_getElem hlt⟩
    have cc := contains_c (l.take k) x (by rw [List.length_take]; omega)
    have hf := freshTo_succ hx
    have hk2 : k ≤ l.length := by omega
    by_cases g : x ∈ l.take k
    · have hr' : r = false := by rw [hr, edgesK, freshTo_not (k := k + 1) (by rw [hf]; simp [g]) _ hlt, Bool.false_and]
      rw [decide_eq_true g] at cc
      repeat (first | (with_reducible refine AWp.seqK fun _ => ?_) | (with_reducible refine AWp.blockK fun _ => ?_) | (with_reducible refine KK.go ?_) | (refine AWp.reg tabOk ?_; simp [-getElem?_pos, z0, z1, z2, hlt, hx, hk2, iRows_take]) | (refine AWp.condK fun _ _ => ?_; simp [-getElem?_pos, z0, z1, z2, hlt, hx, hk2, iRows_take]) | (refine AWp.ret ?_; try simp only [thenP]) | (refine AWp.skip ?_; try simp only [thenP]) | (refine AWp.exit ?_; try simp only [thenP]) | (with_reducible refine AWp.scopeK fun _ => ?_) | (refine AWp.label ?_; try simp only [thenP]) | (with_reducible refine SS.go (fun _ h => by cases h) ?_; try simp only [blockP, thenP]) | (with_reducible refine BB.go ?_; simp only [blockP, thenP, if_true, if_false, reduceIte]) | (refine AWp.draws tabOk (by kernel_rfl) (by kernel_rfl) ?_; simp [-getElem?_pos, z0, z1, z2, hlt, hx, hk2, iRows_take]) | (with_reducible refine And.intro (show okLog _ _ = true from by kernel_rfl) ?_))
      (first | refine Exec0.call [] cc ?_ rfl ?_ ?_ | refine Exec.call [] cc ?_ rfl ?_ ?_); (focus simp [-getElem?_pos, ]); (focus simp [-getElem?_pos, z0, z1, z2, ]); simp [-getElem?_pos, z0, z1, z2, ]
      repeat (first | (with_reducible refine AWp.seqK fun _ => ?_) | (with_reducible refine AWp.blockK fun _ => ?_) | (with_reducible refine KK.go ?_) | (refine AWp.reg tabOk ?_; simp [-getElem?_pos, z0, z1, z2, ]) | (refine AWp.condK fun _ _ => ?_; simp [-getElem?_pos, z0, z1, z2, ]) | (refine AWp.ret ?_; try simp only [thenP]) | (refine AWp.skip ?_; try simp only [thenP]) | (refine AWp.exit ?_; try simp only [thenP]) | (with_reducible refine AWp.scopeK fun _ => ?_) | (refine AWp.label ?_; try simp only [thenP]) | (with_reducible refine SS.go (fun _ h => by cases h) ?_; try simp only [blockP, thenP]) | (with_reducible refine BB.go ?_; simp only [blockP, thenP, if_true, if_false, reduceIte]) | (refine AWp.draws tabOk (by kernel_rfl) (by kernel_rfl) ?_; simp [-getElem?_pos, z0, z1, z2, ]) | (with_reducible refine And.intro (show okLog _ _ = true from by kernel_rfl) ?_))
      (first | refine RR.ret ?_ | refine RR.normal ?_); simp [hr']
    · have hall2 : freshTo l (k + 1) = true := by rw [hf, hall]; simp [g]
      rw [decide_eq_false g] at cc
      repeat (first | (with_reducible refine AWp.seqK fun _ => ?_) | (with_reducible refine AWp.blockK fun _ => ?_) | (with_reducible refine KK.go ?_) | (refine AWp.reg tabOk ?_; simp [-getElem?_pos, z0, z1, z2, hlt, hx, hk2, iRows_take]) | (refine AWp.condK fun _ _ => ?_; simp [-getElem?_pos, z0, z1, z2, hlt, hx, hk2, iRows_take]) | (refine AWp.ret ?_; try simp only [thenP]) | (refine AWp.skip ?_; try simp only [thenP]) | (refine AWp.exit ?_; try simp only [thenP]) | (with_reducible refine AWp.scopeK fun _ => ?_) | (refine AWp.label ?_; try simp only [thenP]) | (with_reducible refine SS.go (fun _ h => by cases h) ?_; try simp only [blockP, thenP]) | (with_reducible refine BB.go ?_; simp only [blockP, thenP, if_true, if_false, reduceIte]) | (refine AWp.draws tabOk (by kernel_rfl) (by kernel_rfl) ?_; simp [-getElem?_pos, z0, z1, z2, hlt, hx, hk2, iRows_take]) | (with_reducible refine And.intro (show okLog _ _ = true from by kernel_rfl) ?_))
      (first | refine Exec0.call [] cc ?_ rfl ?_ ?_ | refine Exec.call [] cc ?_ rfl ?_ ?_); (focus simp [-getElem?_pos, ]); (focus simp [-getElem?_pos, z0, z1, z2, ]); simp [-getElem?_pos, z0, z1, z2, ]
      repeat (first | (with_reducible refine AWp.seqK fun _ => ?_) | (with_reducible refine AWp.blockK fun _ => ?_) | (with_reducible refine KK.go ?_) | (refine AWp.reg tabOk ?_; simp [-getElem?_pos, z0, z1, z2, w1]) | (refine AWp.condK fun _ _ => ?_; simp [-getElem?_pos, z0, z1, z2, w1]) | (refine AWp.ret ?_; try simp only [thenP]) | (refine AWp.skip ?_; try simp only [thenP]) | (refine AWp.exit ?_; try simp only [thenP]) | (with_reducible refine AWp.scopeK fun _ => ?_) | (refine AWp.label ?_; try simp only [thenP]) | (with_reducible refine SS.go (fun _ h => by cases h) ?_; try simp only [blockP, thenP]) | (with_reducible refine BB.go ?_; simp only [blockP, thenP, if_true, if_false, reduceIte]) | (refine AWp.draws tabOk (by kernel_rfl) (by kernel_rfl) ?_; simp [-getElem?_pos, z0, z1, z2, w1]) | (with_reducible refine And.intro (show okLog _ _ = true from by kernel_rfl) ?_))
      refine LL.go ⟨k + 1, hlt, hall2⟩ [0] ⟨by rfl, by simp [], by simp [or_imp, forall_and, ] <;> (try (intro _hne; simp [_hne])), by decide⟩ ?_
      simp; omega
  · obtain rfl : k = l.length := by omega
    have hr' : r = fromK 0 (b.edges - 1) l := by rw [hr, edgesK, hall, Bool.true_and]
    repeat (first | (with_reducible refine AWp.seqK fun _ => ?_) | (with_reducible refine AWp.blockK fun _ => ?_) | (with_reducible refine KK.go ?_) | (refine AWp.reg tabOk ?_; simp [-getElem?_pos, z0, z1, z2, hlt, we]) | (refine AWp.condK fun _ _ => ?_; simp [-getElem?_pos, z0, z1, z2, hlt, we]) | (refine AWp.ret ?_; try simp only [thenP]) | (refine AWp.skip ?_; try simp only [thenP]) | (refine AWp.exit ?_; try simp only [thenP]) | (with_reducible refine AWp.scopeK fun _ => ?_) | (refine AWp.label ?_; try simp only [thenP]) | (with_reducible refine SS.go (fun _ h => by cases h) ?_; try simp only [blockP, thenP]) | (with_reducible refine BB.go ?_; simp only [blockP, thenP, if_true, if_false, reduceIte]) | (refine AWp.draws tabOk (by kernel_rfl) (by kernel_rfl) ?_; simp [-getElem?_pos, z0, z1, z2, hlt, we]) | (with_reducible refine And.intro (show okLog _ _ = true from by kernel_rfl) ?_))
    (first | refine Exec0.call [] cf ?_ rfl ?_ ?_ | refine Exec.call [] cf ?_ rfl ?_ ?_); (focus simp [-getElem?_pos, ]); (focus simp [-getElem?_pos, z0, z1, z2, ]); simp [-getElem?_pos, z0, z1, z2, ]
    repeat (first | (with_reducible refine AWp.seqK fun _ => ?_) | (with_reducible refine AWp.blockK fun _ => ?_) | (with_reducible refine KK.go ?_) | (refine AWp.reg tabOk ?_; simp [-getElem?_pos, z0, z1, z2, ]) | (refine AWp.condK fun _ _ => ?_; simp [-getElem?_pos, z0, z1, z2, ]) | (refine AWp.ret ?_; try simp only [thenP]) | (refine AWp.skip ?_; try simp only [thenP]) | (refine AWp.exit ?_; try simp only [thenP]) | (with_reducible refine AWp.scopeK fun _ => ?_) | (refine AWp.label ?_; try simp only [thenP]) | (with_reducible refine SS.go (fun _ h => by cases h) ?_; try simp only [blockP, thenP]) | (with_reducible refine BB.go ?_; simp only [blockP, thenP, if_true, if_false, reduceIte]) | (refine AWp.draws tabOk (by kernel_rfl) (by kernel_rfl) ?_; simp [-getElem?_pos, z0, z1, z2, ]) | (with_reducible refine And.intro (show okLog _ _ = true from by kernel_rfl) ?_))
    (first | refine RR.ret ?_ | refine RR.normal ?_); simp [hr']
def diffK (lo hi : Int) : Bool := fromK (-1000) 1000 [lo, hi] && decide (lo ≤ hi)
set_option maxRecDepth 100000 in
set_option maxHeartbeats 4000000 in
theorem isDiff_c (lo hi : Int) : ACall Try.prog 56 [.agg [iD lo, iD hi]] (bD (diffK lo hi)) := by
  have ca : ACall Try.prog 57 [iD (-1000), iD 1000, .list [[iD lo], [iD hi]]] (bD (fromK (-1000) 1000 [lo, hi])) := areFromJ_c (-1000) 1000 [lo, hi] (by simp)
  obtain ⟨r, hr⟩ : ∃ r, r = diffK lo hi := ⟨_, rfl⟩
  rw [← hr]
  unfold diffK at hr
  rcases g1 : fromK (-1000) 1000 [lo, hi] <;> rw [g1] at ca hr
  · have hr' : r = false := by rw [hr, Bool.false_and]
    refine acallK tabOk Try.func56 rfl rfl (show 1 ≤ _ by decide) rfl fun _ => ?_; simp only [Try.ntmps56]
    repeat (first | (with_reducible refine AWp.seqK fun _ => ?_) | (with_reducible refine AWp.blockK fun _ => ?_) | (with_reducible refine KK.go ?_) | (refine AWp.reg tabOk ?_; simp [-getElem?_pos, z0, z1, z2, ]) | (refine AWp.condK fun _ _ => ?_; simp [-getElem?_pos, z0, z1, z2, ]) | (refine AWp.ret ?_; try simp only [thenP]) | (refine AWp.skip ?_; try simp only [thenP]) | (refine AWp.exit ?_; try simp only [thenP]) | (with_reducible refine AWp.scopeK fun _ => ?_) | (refine AWp.label ?_; try simp only [thenP]) | (with_reducible refine SS.go (fun _ h => by cases h) ?_; try simp only [blockP, thenP]) | (with_reducible refine BB.go ?_; simp only [blockP, thenP, if_true, if_false, reduceIte]) | (refine AWp.draws tabOk (by kernel_rfl) (by kernel_rfl) ?_; simp [-getElem?_pos, z0, z1, z2, ]) | (with_reducible refine And.intro (show okLog _ _ = true from by kernel_rfl) ?_))
    (first | refine Exec0.call [6] ca ?_ rfl ?_ ?_ | refine Exec.call [6] ca ?_ rfl ?_ ?_); (focus simp [-getElem?_pos, ]); (focus simp [-getElem?_pos, z0, z1, z2, ]); simp [-getElem?_pos, z0, z1, z2, ]
    repeat (first | (with_reducible refine AWp.seqK fun _ => ?_) | (with_reducible refine AWp.blockK fun _ => ?_) | (with_reducible refine KK.go ?_) | (refine AWp.reg tabOk ?_; simp [-getElem?_pos, z0, z1, z2, ]) | (refine AWp.condK fun _ _ => ?_; simp [-getElem?_pos, z0, z1, z2, ]) | (refine AWp.ret ?_; try simp only [thenP]) | (refine AWp.skip ?_; try simp only [thenP]) | (refine AWp.exit ?_; try simp only [thenP]) | (with_reducible refine AWp.scopeK fun _ => ?_) | (refine AWp.label ?_; try simp only [thenP]) | (with_reducible refine SS.go (fun _ h => by cases h) ?_; try simp only [blockP, thenP]) | (with_reducible refine BB.go ?_; simp only [blockP, thenP, if_true, if_false, reduceIte]) | (refine AWp.draws tabOk (by kernel_rfl) (by kernel_rfl) ?_; simp [-getElem?_pos, z0, z1, z2, ]) | (with_reducible refine And.intro (show okLog _ _ = true from by kernel_rfl) ?_))
    (first | refine RR.ret ?_ | refine RR.normal ?_); simp [hr']
  · by_cases g2 : lo ≤ hi
    · have hr' : r = true := by rw [hr, decide_eq_true g2]; rfl
      refine acallK tabOk Try.func56 rfl rfl (show 1 ≤ _ by decide) rfl fun _ => ?_; simp only [Try.ntmps56]
      repeat (first | (with_reducible refine AWp.seqK fun _ => ?_) | (with_reducible refine AWp.blockK fun _ => ?_) | (with_reducible refine KK.go ?_) | (refine AWp.reg tabOk ?_; simp [-getElem?_pos, z0, z1, z2, ]) | (refine AWp.condK fun _ _ => ?_; simp [-getElem?_pos, z0, z1, z2, ]) | (refine AWp.ret ?_; try simp only [thenP]) | (refine AWp.skip ?_; try simp only [thenP]) | (refine AWp.exit ?_; try simp only [thenP]) | (with_reducible refine AWp.scopeK fun _ => ?_) | (refine AWp.label ?_; try simp only [thenP]) | (with_reducible refine SS.go (fun _ h => by cases h) ?_; try simp only [blockP, thenP]) | (with_reducible refine BB.go ?_; simp only [blockP, thenP, if_true, if_false, reduceIte]) | (refine AWp.draws tabOk (by kernel_rfl) (by kernel_rfl) ?_; simp [-getElem?_pos, z0, z1, z2, ]) | (with_reducible refine And.intro (show okLog _ _ = true from by kernel_rfl) ?_))
      (first | refine Exec0.call [6] ca ?_ rfl ?_ ?_ | refine Exec.call [6] ca ?_ rfl ?_ ?_); (focus simp [-getElem?_pos, g2]); (focus simp [-getElem?_pos, z0, z1, z2, g2]); simp [-getElem?_pos, z0, z1, z2, g2]
      repeat (first | (with_reducible refine AWp.seqK fun _ => ?_) | (with_reducible refine AWp.blockK fun _ => ?_) | (with_reducible refine KK.go ?_) | (refine AWp.reg tabOk ?_; simp [-getElem?_pos, z0, z1, z2, g2]) | (refine AWp.condK fun _ _ => ?_; simp [-getElem?_pos, z0, z1, z2, g2]) | (refine AWp.ret ?_; try simp only [thenP]) | (refine AWp.skip ?_; try simp only [thenP]) | (refine AWp.exit ?_; try simp only [thenP]) | (with_reducible refine AWp.scopeK fun _ => ?_) | (refine AWp.label ?_; try simp only [thenP]) | (with_reducible refine SS.go (fun _ h => by cases h) ?_; try simp only [blockP, thenP]) | (with_reducible refine BB.go ?_; simp only [blockP, thenP, if_true, if_false, reduceIte]) | (refine AWp.draws tabOk (by kernel_rfl) (by kernel_rfl) ?_; simp [-getElem?_pos, z0, z1, z2, g2]) | (with_reducible refine And.intro (show okLog _ _ = true from by kernel_rfl) ?_))
      (first | refine RR.ret ?_ | refine RR.normal ?_); simp [hr']
    · have hr' : r = false := by rw [hr, decide_eq_false g2]; rfl
      refine acallK tabOk Try.func56 rfl rfl (show 1 ≤ _ by decide) rfl fun _ => ?_; simp only [Try.ntmps56]
      repeat (first | (with_reducible refine AWp.seqK fun _ => ?_) | (with_reducible refine AWp.blockK fun _ => ?_) | (with_reducible refine KK.go ?_) | (refine AWp.reg tabOk ?_; simp [-getElem?_pos, z0, z1, z2, ]) | (refine AWp.condK fun _ _ => ?_; simp [-getElem?_pos, z0, z1, z2, ]) | (refine AWp.ret ?_; try simp only [thenP]) | (refine AWp.skip ?_; try simp only [thenP]) | (refine AWp.exit ?_; try simp only [thenP]) | (with_reducible refine AWp.scopeK fun _ => ?_) | (refine AWp.label ?_; try simp only [thenP]) | (with_reducible refine SS.go (fun _ h => by cases h) ?_; try simp only [blockP, thenP]) | (with_reducible refine BB.go ?_; simp only [blockP, thenP, if_true, if_false, reduceIte]) | (refine AWp.draws tabOk (by kernel_rfl) (by kernel_rfl) ?_; simp [-getElem?_pos, z0, z1, z2, ]) | (with_reducible refine And.intro (show okLog _ _ = true from by kernel_rfl) ?_))
      (first | refine Exec0.call [6] ca ?_ rfl ?_ ?_ | refine Exec.call [6] ca ?_ rfl ?_ ?_); (focus simp [-getElem?_pos, g2]); (focus simp [-getElem?_pos, z0, z1, z2, g2]); simp [-getElem?_pos, z0, z1, z2, g2]
      repeat (first | (with_reducible refine AWp.seqK fun _ => ?_) | (with_reducible refine AWp.blockK fun _ => ?_) | (with_reducible refine KK.go ?_) | (refine AWp.reg tabOk ?_; simp [-getElem?_pos, z0, z1, z2, g2]) | (refine AWp.condK fun _ _ => ?_; simp [-getElem?_pos, z0, z1, z2, g2]) | (refine AWp.ret ?_; try simp only [thenP]) | (refine AWp.skip ?_; try simp only [thenP]) | (refine AWp.exit ?_; try simp only [thenP]) | (with_reducible refine AWp.scopeK fun _ => ?_) | (refine AWp.label ?_; try simp only [thenP]) | (with_reducible refine SS.go (fun _ h => by cases h) ?_; try simp only [blockP, thenP]) | (with_reducible refine BB.go ?_; simp only [blockP, thenP, if_true, if_false, reduceIte]) | (refine AWp.draws tabOk (by kernel_rfl) (by kernel_rfl) ?_; simp [-getElem?_pos, z0, z1, z2, g2]) | (with_reducible refine And.intro (show okLog _ _ = true from by kernel_rfl) ?_))
      (first | refine RR.ret ?_ | refine RR.normal ?_); simp [hr']
def argK (e : Int) (t : KT) : Bool := edgesK e [t.one, t.two]
def difK (t : KT) : Bool := diffK t.lo t.hi
theorem argK_eq (e : Int) (t : KT) : argK e t = decide ((0 ≤ t.one ∧ t.one < e) ∧ (0 ≤ t.two ∧ t.two < e) ∧ t.one ≠ t.two) := by
  simp only [argK, edgesK, freshTo, fromK, inK, List.length_cons, List.length_nil, List.take_zero, List.all_cons, List.all_nil, Bool.and_true, Bool.true_and]
  rw [Bool.eq_iff_iff]
  simp
  omega
theorem difK_eq (t : KT) : difK t = decide (-1000 ≤ t.lo ∧ t.lo ≤ t.hi ∧ t.hi ≤ 1000) := by
  simp only [difK, diffK, fromK, inK, List.all_cons, List.all_nil, Bool.and_true]
  rw [Bool.eq_iff_iff]
  simp
  omega
def testErr (e : Int) (t : KT) : Int := if argK e t = false then 2 else if difK t = false then 3 else 0
abbrev ktD (t : KT) : Dat := .agg [iD t.one, iD t.two, iD t.lo, iD t.hi]
set_option maxRecDepth 100000 in
set_option maxHeartbeats 4000000 in
theorem refIsTest_c (e : Int) (t : KT) : ACall Try.prog 48 [iD e, ktD t] (iD (testErr e t)) := by
  obtain ⟨r, hr⟩ : ∃ r, r = testErr e t := ⟨_, rfl⟩
  rw [← hr]
  rw [testErr, argK_eq, difK_eq] at hr
  have bad : ∀ p : Prop, [Decidable p] → ¬ p → (decide p = false) := fun p _ h => decide_eq_false h
  by_cases g1 : t.one < 0
  · have hr' : r = 2 := by rw [hr, if_pos (by simp; omega)]
    refine acallK tabOk Try.func48 rfl rfl (show 2 ≤ _ by decide) rfl fun _ => ?_; simp only [Try.ntmps48]
    repeat (first | (with_reducible refine AWp.seqK fun _ => ?_) | (with_reducible refine AWp.blockK fun _ => ?_) | (with_reducible refine KK.go ?_) | (refine AWp.reg tabOk ?_; simp [-getElem?_pos, z0, z1, z2, g1]) | (refine AWp.condK fun _ _ => ?_; simp [-getElem?_pos, z0, z1, z2, g1]) | (refine AWp.ret ?_; try simp only [thenP]) | (refine AWp.skip ?_; try simp only [thenP]) | (refine AWp.exit ?_; try simp only [thenP]) | (with_reducible refine AWp.scopeK fun _ => ?_) | (refine AWp.label ?_; try simp only [thenP]) | (with_reducible refine SS.go (fun _ h => by cases h) ?_; try simp only [blockP, thenP]) | (with_reducible refine BB.go ?_; simp only [blockP, thenP, if_true, if_false, reduceIte]) | (refine AWp.draws tabOk (by kernel_rfl) (by kernel_rfl) ?_; simp [-getElem?_pos, z0, z1, z2, g1]) | (with_reducible refine And.intro (show okLog _ _ = true from by kernel_rfl) ?_))
    (first | refine RR.ret ?_ | refine RR.normal ?_); simp [hr']
  by_cases g2 : e ≤ t.one
  · have hr' : r = 2 := by rw [hr, if_pos (by simp; omega)]
    refine acallK tabOk Try.func48 rfl rfl (show 2 ≤ _ by decide) rfl fun _ => ?_; simp only [Try.ntmps48]
    repeat (first | (with_reducible refine AWp.seqK fun _ => ?_) | (with_reducible refine AWp.blockK fun _ => ?_) | (with_reducible refine KK.go ?_) | (refine AWp.reg tabOk ?_; simp [-getElem?_pos, z0, z1, z2, g1, g2]) | (refine AWp.condK fun _ _ => ?_; simp [-getElem?_pos, z0, z1, z2, g1, g2]) | (refine AWp.ret ?_; try simp only [thenP]) | (refine AWp.skip ?_; try simp only [thenP]) | (refine AWp.exit ?_; try simp only [thenP]) | (with_reducible refine AWp.scopeK fun _ => ?_) | (refine AWp.label ?_; try simp only [thenP]) | (with_reducible refine SS.go (fun _ h => by cases h) ?_; try simp only [blockP, thenP]) | (with_reducible refine BB.go ?_; simp only [blockP, thenP, if_true, if_false, reduceIte]) | (refine AWp.draws tabOk (by kernel_rfl) (by kernel_rfl) ?_; simp [-getElem?_pos, z0, z1, z2, g1, g2]) | (with_reducible refine And.intro (show okLog _ _ = true from by kernel_rfl) ?_))
    (first | refine RR.ret ?_ | refine RR.normal ?_); simp [hr']
  by_cases g3 : t.two < 0
  · have hr' : r = 2 := by rw [hr, if_pos (by simp; omega)]
    refine acallK tabOk Try.func48 rfl rfl (show 2 ≤ _ by decide) rfl fun _ => ?_; simp only [Try.ntmps48]
    repeat (first | (with_reducible refine AWp.seqK fun _ => ?_) | (with_reducible refine AWp.blockK fun _ => ?_) | (with_reducible refine KK.go ?_) | (refine AWp.reg tabOk ?_; simp [-getElem?_pos, z0, z1, z2, g1, g2, g3]) | (refine AWp.condK fun _ _ => ?_; simp [-getElem?_pos, z0, z1, z2, g1, g2, g3]) | (refine AWp.ret ?_; try simp only [thenP]) | (refine AWp.skip ?_; try simp only [thenP]) | (refine AWp.exit ?_; try simp only [thenP]) | (with_reducible refine AWp.scopeK fun _ => ?_) | (refine AWp.label ?_; try simp only [thenP]) | (with_reducible refine SS.go (fun _ h => by cases h) ?_; try simp only [blockP, thenP]) | (with_reducible refine BB.go ?_; simp only [blockP, thenP, if_true, if_false, reduceIte]) | (refine AWp.draws tabOk (by kernel_rfl) (by kernel_rfl) ?_; simp [-getElem?_pos, z0, z1, z2, g1, g2, g3]) | (with_reducible refine And.intro (show okLog _ _ = true from by kernel_rfl) ?_))
    (first | refine RR.ret ?_ | refine RR.normal ?_); simp [hr']
  by_cases g4 : e ≤ t.two
  · have hr' : r = 2 := by rw [hr, if_pos (by simp; omega)]
    refine acallK tabOk Try.func48 rfl rfl (show 2 ≤ _ by decide) rfl fun _ => ?_; simp only [Try.ntmps48]
    repeat (first | (with_reducible refine AWp.seqK fun _ => ?_) | (with_reducible refine AWp.blockK fun _ => ?_) | (with_reducible refine KK.go ?_) | (refine AWp.reg tabOk ?_; simp [-getElem?_pos, z0, z1, z2, g1, g2, g3, g4]) | (refine AWp.condK fun _ _ => ?_; simp [-getElem?_pos, z0, z1, z2, g1, g2, g3, g4]) | (refine AWp.ret ?_; try simp only [thenP]) | (refine AWp.skip ?_; try simp only [thenP]) | (refine AWp.exit ?_; try simp only [thenP]) | (with_reducible refine AWp.scopeK fun _ => ?_) | (refine AWp.label ?_; try simp only [thenP]) | (with_reducible refine SS.go (fun _ h => by cases h) ?_; try simp only [blockP, thenP]) | (with_reducible refine BB.go ?_; simp only [blockP, thenP, if_true, if_false, reduceIte]) | (refine AWp.draws tabOk (by kernel_rfl) (by kernel_rfl) ?_; simp [-getElem?_pos, z0, z1, z2, g1, g2, g3, g4]) | (with_reducible refine And.intro (show okLog _ _ = true from by kernel_rfl) ?_))
    (first | refine RR.ret ?_ | refine RR.normal ?_); simp [hr']
  by_cases g5 : t.one = t.two
  · have hr' : r = 2 := by rw [hr, if_pos (by simp; omega)]
    refine acallK tabOk Try.func48 rfl rfl (show 2 ≤ _ by decide) rfl fun _ => ?_; simp only [Try.ntmps48]
    repeat (first | (with_reducible refine AWp.seqK fun _ => ?_) | (with_reducible refine AWp.blockK fun _ => ?_) | (with_reducible refine KK.go ?_) | (refine AWp.reg tabOk ?_; simp [-getElem?_pos, z0, z1, z2, g1, g2, g3, g4, g5]) | (refine AWp.condK fun _ _ => ?_; simp [-getElem?_pos, z0, z1, z2, g1, g2, g3, g4, g5]) | (refine AWp.ret ?_; try simp only [thenP]) | (refine AWp.skip ?_; try simp only [thenP]) | (refine AWp.exit ?_; try simp only [thenP]) | (with_reducible refine AWp.scopeK fun _ => ?_) | (refine AWp.label ?_; try simp only [thenP]) | (with_reducible refine SS.go (fun _ h => by cases h) ?_; try simp only [blockP, thenP]) | (with_reducible refine BB.go ?_; simp only [blockP, thenP, if_true, if_false, reduceIte]) | (refine AWp.draws tabOk (by kernel_rfl) (by kernel_rfl) ?_; simp [-getElem?_pos, z0, z1, z2, g1, g2, g3, g4, g5]) | (with_reducible refine And.intro (show okLog _ _ = true from by kernel_rfl) ?_))
    (first | refine RR.ret ?_ | refine RR.normal ?_); simp [hr']
  have ha : ¬ (decide ((0 ≤ t.one ∧ t.one < e) ∧ (0 ≤ t.two ∧ t.two < e) ∧ t.one ≠ t.two) = false) := by simp; omega
  rw [if_neg ha] at hr
  by_cases g6 : t.lo < -1000
  · have hr' : r = 3 := by rw [hr, if_pos (by simp; omega)]
    refine acallK tabOk Try.func48 rfl rfl (show 2 ≤ _ by decide) rfl fun _ => ?_; simp only [Try.ntmps48]
    repeat (first | (with_reducible refine AWp.seqK fun _ => ?_) | (with_reducible refine AWp.blockK fun _ => ?_) | (with_reducible refine KK.go ?_) | (refine AWp.reg tabOk ?_; simp [-getElem?_pos, z0, z1, z2, g1, g2, g3, g4, g5, g6]) | (refine AWp.condK fun _ _ => ?_; simp [-getElem?_pos, z0, z1, z2, g1, g2, g3, g4, g5, g6]) | (refine AWp.ret ?_; try simp only [thenP]) | (refine AWp.skip ?_; try simp only [thenP]) | (refine AWp.exit ?_; try simp only [thenP]) | (with_reducible refine AWp.scopeK fun _ => ?_) | (refine AWp.label ?_; try simp only [thenP]) | (with_reducible refine SS.go (fun _ h => by cases h) ?_; try simp only [blockP, thenP]) | (with_reducible refine BB.go ?_; simp only [blockP, thenP, if_true, if_false, reduceIte]) | (refine AWp.draws tabOk (by kernel_rfl) (by kernel_rfl) ?_; simp [-getElem?_pos, z0, z1, z2, g1, g2, g3, g4, g5, g6]) | (with_reducible refine And.intro (show okLog _ _ = true from by kernel_rfl) ?_))
    (first | refine RR.ret ?_ | refine RR.normal ?_); simp [hr']
  by_cases g7 : t.hi < t.lo
  · have hr' : r = 3 := by rw [hr, if_pos (by simp; omega)]
    refine acallK tabOk Try.func48 rfl rfl (show 2 ≤ _ by decide) rfl fun _ => ?_; simp only [Try.ntmps48]
    repeat (first | (with_reducible refine AWp.seqK fun _ => ?_) | (with_reducible refine AWp.blockK fun _ => ?_) | (with_reducible refine KK.go ?_) | (refine AWp.reg tabOk ?_; simp [-getElem?_pos, z0, z1, z2, g1, g2, g3, g4, g5, g6, g7]) | (refine AWp.condK fun _ _ => ?_; simp [-getElem?_pos, z0, z1, z2, g1, g2, g3, g4, g5, g6, g7]) | (refine AWp.ret ?_; try simp only [thenP]) | (refine AWp.skip ?_; try simp only [thenP]) | (refine AWp.exit ?_; try simp only [thenP]) | (with_reducible refine AWp.scopeK fun _ => ?_) | (refine AWp.label ?_; try simp only [thenP]) | (with_reducible refine SS.go (fun _ h => by cases h) ?_; try simp only [blockP, thenP]) | (with_reducible refine BB.go ?_; simp only [blockP, thenP, if_true, if_false, reduceIte]) | (refine AWp.draws tabOk (by kernel_rfl) (by kernel_rfl) ?_; simp [-getElem?_pos, z0, z1, z2, g1, g2, g3, g4, g5, g6, g7]) | (with_reducible refine And.intro (show okLog _ _ = true from by kernel_rfl) ?_))
    (first | refine RR.ret ?_ | refine RR.normal ?_); simp [hr']
  by_cases g8 : 1000 < t.hi
  · have hr' : r = 3 := by rw [hr, if_pos (by simp; omega)]
    refine acallK tabOk Try.func48 rfl rfl (show 2 ≤ _ by decide) rfl fun _ => ?_; simp only [Try.ntmps48]
    repeat (first | (with_reducible refine AWp.seqK fun _ => ?_) | (with_reducible refine AWp.blockK fun _ => ?_) | (with_reducible refine KK.go ?_) | (refine AWp.reg tabOk ?_; simp [-getElem?_pos, z0, z1, z2, g1, g2, g3, g4, g5, g6, g7, g8]) | (refine AWp.condK fun _ _ => ?_; simp [-getElem?_pos, z0, z1, z2, g1, g2, g3, g4, g5, g6, g7, g8]) | (refine AWp.ret ?_; try simp only [thenP]) | (refine AWp.skip ?_; try simp only [thenP]) | (refine AWp.exit ?_; try simp only [thenP]) | (with_reducible refine AWp.scopeK fun _ => ?_) | (refine AWp.label ?_; try simp only [thenP]) | (with_reducible refine SS.go (fun _ h => by cases h) ?_; try simp only [blockP, thenP]) | (with_reducible refine BB.go ?_; simp only [blockP, thenP, if_true, if_false, reduceIte]) | (refine AWp.draws tabOk (by kernel_rfl) (by kernel_rfl) ?_; simp [-getElem?_pos, z0, z1, z2, g1, g2, g3, g4, g5, g6, g7, g8]) | (with_reducible refine And.intro (show okLog _ _ = true from by kernel_rfl) ?_))
    (first | refine RR.ret ?_ | refine RR.normal ?_); simp [hr']
  · have hr' : r = 0 := by rw [hr, if_neg (by simp; omega)]
    refine acallK tabOk Try.func48 rfl rfl (show 2 ≤ _ by decide) rfl fun _ => ?_; simp only [Try.ntmps48]
    repeat (first | (with_reducible refine AWp.seqK fun _ => ?_) | (with_reducible refine AWp.blockK fun _ => ?_) | (with_reducible refine KK.go ?_) | (refine AWp.reg tabOk ?_; simp [-getElem?_pos, z0, z1, z2, g1, g2, g3, g4, g5, g6, g7, g8]) | (refine AWp.condK fun _ _ => ?_; simp [-getElem?_pos, z0, z1, z2, g1, g2, g3, g4, g5, g6, g7, g8]) | (refine AWp.ret ?_; try simp only [thenP]) | (refine AWp.skip ?_; try simp only [thenP]) | (refine AWp.exit ?_; try simp only [thenP]) | (with_reducible refine AWp.scopeK fun _ => ?_) | (refine AWp.label ?_; try simp only [thenP]) | (with_reducible refine SS.go (fun _ h => by cases h) ?_; try simp only [blockP, thenP]) | (with_reducible refine BB.go ?_; simp only [blockP, thenP, if_true, if_false, reduceIte]) | (refine AWp.draws tabOk (by kernel_rfl) (by kernel_rfl) ?_; simp [-getElem?_pos, z0, z1, z2, g1, g2, g3, g4, g5, g6, g7, g8]) | (with_reducible refine And.intro (show okLog _ _ = true from by kernel_rfl) ?_))
    (first | refine RR.ret ?_ | refine RR.normal ?_); simp [hr']
end Go.Proofs.Ytielmlnmjiooiaa.Eng

/-
  Layer 5: which books are valid, in package keen and in the reference: the whole book.
-/
namespace Go.Proofs.Ytielmlnmjiooiaa.Eng
open Go.RowKit

def bookErr (b : Book) : Int := if b.edges < 1 ∨ 16 < b.edges ∨ 40 < b.ts.length then 6 else if b.ts.all (argK b.edges) = false then 2 else if b.ts.all difK = false then 3 else 0
theorem bookErr_6 {b : Book} (h : b.edges < 1 ∨ 16 < b.edges ∨ 40 < b.ts.length) : bookErr b = 6 := if_pos h
theorem bookErr_2 {b : Book} (h : ¬ (b.edges < 1 ∨ 16 < b.edges ∨ 40 < b.ts.length)) (h2 : b.ts.all (argK b.edges) = false) : bookErr b = 2 := by rw [bookErr, if_neg h, if_pos h2]
theorem bookErr_3 {b : Book} (h : ¬ (b.edges < 1 ∨ 16 < b.edges ∨ 40 < b.ts.length)) (h2 : b.ts.all (argK b.edges) = true) (h3 : b.ts.all difK = false) : bookErr b = 3 := by rw [bookErr, if_neg h, if_neg (by simp [h2]), if_pos h3]
theorem bookErr_0 {b : Book} (h : ¬ (b.edges < 1 ∨ 16 < b.edges ∨ 40 < b.ts.length)) (h2 : b.ts.all (argK b.edges) = true) (h3 : b.ts.all difK = true) : bookErr b = 0 := by rw [bookErr, if_neg h, if_neg (by simp [h2]), if_neg (by simp [h3])]
/-- What a valid book is. -/
structure BookOk (b : Book) : Prop where
  e1 : 1 ≤ b.edges
  e2 : b.edges ≤ 16
  n : b.ts.length ≤ 40
  arg : ∀ t ∈ b.ts, (0 ≤ t.one ∧ t.one < b.edges) ∧ (0 ≤ t.two ∧ t.two < b.edges) ∧ t.one ≠ t.two
  dif : ∀ t ∈ b.ts, -1000 ≤ t.lo ∧ t.lo ≤ t.hi ∧ t.hi ≤ 1000
theorem bookOk {b : Book} (h : bookErr b = 0) : BookOk b := by
  unfold bookErr at h
  split at h
  · cases h
  · split at h
    · cases h
    · split at h
      · cases h
      · rename_i h1 h2 h3
        refine ⟨by omega, by omega, by omega, fun t ht => ?_, fun t ht => ?_⟩
        · have := List.all_eq_true.1 (by simpa using h2 : b.ts.all (argK b.edges) = true) t ht
          rw [argK_eq] at this
          exact of_decide_eq_true this
        · have := List.all_eq_true.1 (by simpa using h3 : b.ts.all difK = true) t ht
          rw [difK_eq] at this
          exact of_decide_eq_true this
theorem testErr_arg {e : Int} {t : KT} (h : argK e t = false) : testErr e t = 2 := if_pos h
theorem testErr_dif {e : Int} {t : KT} (h : argK e t = true) (h2 : difK t = false) : testErr e t = 3 := by rw [testErr, if_neg (by simp [h]), if_pos h2]
theorem testErr_ok {e : Int} {t : KT} (h : argK e t = true) (h2 : difK t = true) : testErr e t = 0 := by rw [testErr, if_neg (by simp [h]), if_neg (by simp [h2])]
theorem testErr_not2 {e : Int} {t : KT} (h : argK e t = true) : testErr e t ≠ 2 := by
  cases h2 : difK t with
  | false => rw [testErr_dif h h2]; decide
  | true => rw [testErr_ok h h2]; decide
set_option maxRecDepth 100000 in
set_option maxHeartbeats 4000000 in
theorem refCheckBook_c (b : Book) : ACall Try.prog 19 [bookD b] (iD (bookErr b)) := by
  obtain ⟨r, hr⟩ : ∃ r, r = bookErr b := ⟨_, rfl⟩
  rw [← hr]
  by_cases h1 : b.edges < 1
  · have hr' : r = 6 := hr.trans (bookErr_6 (.inl h1))
    refine acallK tabOk Try.func19 rfl rfl (show 1 ≤ _ by decide) rfl fun _ => ?_; simp only [Try.ntmps19]
    repeat (first | (with_reducible refine AWp.seqK fun _ => ?_) | (with_reducible refine AWp.blockK fun _ => ?_) | (with_reducible refine KK.go ?_) | (refine AWp.reg tabOk ?_; simp [-getElem?_pos, z0, z1, z2, h1]) | (refine AWp.condK fun _ _ => ?_; simp [-getElem?_pos, z0, z1, z2, h1]) | (refine AWp.ret ?_; try simp only [thenP]) | (refine AWp.skip ?_; try simp only [thenP]) | (refine AWp.exit ?_; try simp only [thenP]) | (with_reducible refine AWp.scopeK fun _ => ?_) | (refine AWp.label ?_; try simp only [thenP]) | (with_reducible refine SS.go (fun _ h => by cases h) ?_; try simp only [blockP, thenP]) | (with_reducible refine BB.go ?_; simp only [blockP, thenP, if_true, if_false, reduceIte]) | (refine AWp.draws tabOk (by kernel_rfl) (by kernel_rfl) ?_; simp [-getElem?_pos, z0, z1, z2, h1]) | (with_reducible refine And.intro (show okLog _ _ = true from by kernel_rfl) ?_))
    (first | refine RR.ret ?_ | refine RR.normal ?_); simp [hr']
  by_cases h2 : 16 < b.edges
  · have hr' : r = 6 := hr.trans (bookErr_6 (.inr (.inl h2)))
    refine acallK tabOk Try.func19 rfl rfl (show 1 ≤ _ by decide) rfl fun _ => ?_; simp only [Try.ntmps19]
    repeat (first | (with_reducible refine AWp.seqK fun _ => ?_) | (with_reducible refine AWp.blockK fun _ => ?_) | (with_reducible refine KK.go ?_) | (refine AWp.reg tabOk ?_; simp [-getElem?_pos, z0, z1, z2, h1, h2]) | (refine AWp.condK fun _ _ => ?_; simp [-getElem?_pos, z0, z1, z2, h1, h2]) | (refine AWp.ret ?_; try simp only [thenP]) | (refine AWp.skip ?_; try simp only [thenP]) | (refine AWp.exit ?_; try simp only [thenP]) | (with_reducible refine AWp.scopeK fun _ => ?_) | (refine AWp.label ?_; try simp only [thenP]) | (with_reducible refine SS.go (fun _ h => by cases h) ?_; try simp only [blockP, thenP]) | (with_reducible refine BB.go ?_; simp only [blockP, thenP, if_true, if_false, reduceIte]) | (refine AWp.draws tabOk (by kernel_rfl) (by kernel_rfl) ?_; simp [-getElem?_pos, z0, z1, z2, h1, h2]) | (with_reducible refine And.intro (show okLog _ _ = true from by kernel_rfl) ?_))
    (first | refine RR.ret ?_ | refine RR.normal ?_); simp [hr']
  by_cases h3 : 40 < b.ts.length
  · have hr' : r = 6 := hr.trans (bookErr_6 (.inr (.inr h3)))
    have h3' : (40 : Int) < b.ts.length := by omega
    refine acallK tabOk Try.func19 rfl rfl (show 1 ≤ _ by decide) rfl fun _ => ?_; simp only [Try.ntmps19]
    repeat (first | (with_reducible refine AWp.seqK fun _ => ?_) | (with_reducible refine AWp.blockK fun _ => ?_) | (with_reducible refine KK.go ?_) | (refine AWp.reg tabOk ?_; simp [-getElem?_pos, z0, z1, z2, h1, h2, h3, h3']) | (refine AWp.condK fun _ _ => ?_; simp [-getElem?_pos, z0, z1, z2, h1, h2, h3, h3']) | (refine AWp.ret ?_; try simp only [thenP]) | (refine AWp.skip ?_; try simp only [thenP]) | (refine AWp.exit ?_; try simp only [thenP]) | (with_reducible refine AWp.scopeK fun _ => ?_) | (refine AWp.label ?_; try simp only [thenP]) | (with_reducible refine SS.go (fun _ h => by cases h) ?_; try simp only [blockP, thenP]) | (with_reducible refine BB.go ?_; simp only [blockP, thenP, if_true, if_false, reduceIte]) | (refine AWp.draws tabOk (by kernel_rfl) (by kernel_rfl) ?_; simp [-getElem?_pos, z0, z1, z2, h1, h2, h3, h3']) | (with_reducible refine And.intro (show okLog _ _ = true from by kernel_rfl) ?_))
    (first | refine RR.ret ?_ | refine RR.normal ?_); simp [hr']
  have h3' : ¬ (40 : Int) < b.ts.length := by omega
  have hn : ¬ (b.edges < 1 ∨ 16 < b.edges ∨ 40 < b.ts.length) := by omega
  refine acallK tabOk Try.func19 rfl rfl (show 1 ≤ _ by decide) rfl fun _ => ?_; simp only [Try.ntmps19]
  repeat (first | (with_reducible refine AWp.seqK fun _ => ?_) | (with_reducible refine AWp.blockK fun _ => ?_) | (with_reducible refine KK.go ?_) | (refine AWp.reg tabOk ?_; simp [-getElem?_pos, z0, z1, z2, h1, h2, h3, h3']) | (refine AWp.condK fun _ _ => ?_; simp [-getElem?_pos, z0, z1, z2, h1, h2, h3, h3']) | (refine AWp.ret ?_; try simp only [thenP]) | (refine AWp.skip ?_; try simp only [thenP]) | (refine AWp.exit ?_; try simp only [thenP]) | (with_reducible refine AWp.scopeK fun _ => ?_) | (refine AWp.label ?_; try simp only [thenP]) | (with_reducible refine SS.go (fun _ h => by cases h) ?_; try simp only [blockP, thenP]) | (with_reducible refine BB.go ?_; simp only [blockP, thenP, if_true, if_false, reduceIte]) | (refine AWp.draws tabOk (by kernel_rfl) (by kernel_rfl) ?_; simp [-getElem?_pos, z0, z1, z2, h1, h2, h3, h3']) | (with_reducible refine And.intro (show okLog _ _ = true from by kernel_rfl) ?_))
  refine AWp.loopK (ι := { k : Nat // k ≤ b.ts.length ∧ (b.ts.take k).all (argK b.edges) = true }) (n := 1) (fun k => [(1, .ptr 0 0 0), (3, .d (iD k.1))]) (fun _ => [(0, .box 24 [.d (iD b.edges), .d (.list (ktRows b.ts))] false)]) (fun k => b.ts.length - k.1) ⟨0, Nat.zero_le _, by simp⟩ [0] ?_ ?_
  · refine ⟨by rfl, by simp [], by simp [or_imp, forall_and, ] <;> (try (intro _hne; simp [_hne])), by decide⟩
  rintro ⟨k, hk, hall⟩ kk
  have w1 : IntKind.i64.wrap ((k : Int) + 1) = (k : Int) + 1 := wrap64_in (by omega)
  by_cases hlt : k < b.ts.length
  · obtain ⟨t, ht⟩ : ∃ t, b.ts[k]? = some t := ⟨_, List.getElem?_eq_getElem hlt⟩
    have ci := refIsTest_c b.edges t
    rcases g : argK b.edges t
    · have hr' : r = 2 := hr.trans (bookErr_2 hn (allK_not ht g))
      rw [testErr_arg g] at ci
      repeat (first | (with_reducible refine AWp.seqK fun _ => ?_) | (with_reducible refine AWp.blockK fun _ => ?_) | (with_reducible refine KK.go ?_) | (refine AWp.reg tabOk ?_; simp [-getElem?_pos, z0, z1, z2, hlt, ht]) | (refine AWp.condK fun _ _ => ?_; simp [-getElem?_pos, z0, z1, z2, hlt, ht]) | (refine AWp.ret ?_; try simp only [thenP]) | (refine AWp.skip ?_; try simp only [thenP]) | (refine AWp.exit ?_; try simp only [thenP]) | (with_reducible refine AWp.scopeK fun _ => ?_) | (refine AWp.label ?_; try simp only [thenP]) | (with_reducible refine SS.go (fun _ h => by cases h) ?_; try simp only [blockP, thenP]) | (with_reducible refine BB.go ?_; simp only [blockP, thenP, if_true, if_false, reduceIte]) | (refine AWp.draws tabOk (by kernel_rfl) (by kernel_rfl) ?_; simp [-getElem?_pos, z0, z1, z2, hlt, ht]) | (with_reducible refine And.intro (show okLog _ _ = true from by kernel_rfl) ?_))
      (first | refine Exec0.call [] ci ?_ rfl ?_ ?_ | refine Exec.call [] ci ?_ rfl ?_ ?_); (focus simp [-getElem?_pos, ]); (focus simp [-getElem?_pos, z0, z1, z2, ]); simp [-getElem?_pos, z0, z1, z2, ]
      repeat (first | (with_reducible refine AWp.seqK fun _ => ?_) | (with_reducible refine AWp.blockK fun _ => ?_) | (with_reducible refine KK.go ?_) | (refine AWp.reg tabOk ?_; simp [-getElem?_pos, z0, z1, z2, ]) | (refine AWp.condK fun _ _ => ?_; simp [-getElem?_pos, z0, z1, z2, ]) | (refine AWp.ret ?_; try simp only [thenP]) | (refine AWp.skip ?_; try simp only [thenP]) | (refine AWp.exit ?_; try simp only [thenP]) | (with_reducible refine AWp.scopeK fun _ => ?_) | (refine AWp.label ?_; try simp only [thenP]) | (with_reducible refine SS.go (fun _ h => by cases h) ?_; try simp only [blockP, thenP]) | (with_reducible refine BB.go ?_; simp only [blockP, thenP, if_true, if_false, reduceIte]) | (refine AWp.draws tabOk (by kernel_rfl) (by kernel_rfl) ?_; simp [-getElem?_pos, z0, z1, z2, ]) | (with_reducible refine And.intro (show okLog _ _ = true from by kernel_rfl) ?_))
      (first | refine RR.ret ?_ | refine RR.normal ?_); simp [hr']
    · have hall2 : (b.ts.take (k + 1)).all (argK b.edges) = true := by rw [allK_take ht, hall, g]; rfl
      have hne := testErr_not2 g
      generalize testErr b.edges t = e at *
      repeat (first | (with_reducible refine AWp.seqK fun _ => ?_) | (with_reducible refine AWp.blockK fun _ => ?_) | (with_reducible refine KK.go ?_) | (refine AWp.reg tabOk ?_; simp [-getElem?_pos, z0, z1, z2, hlt, ht]) | (refine AWp.condK fun _ _ => ?_; simp [-getElem?_pos, z0, z1, z2, hlt, ht]) | (refine AWp.ret ?_; try simp only [thenP]) | (refine AWp.skip ?_; try simp only [thenP]) | (refine AWp.exit ?_; try simp only [thenP]) | (with_reducible refine AWp.scopeK fun _ => ?_) | (refine AWp.label ?_; try simp only [thenP]) | (with_reducible refine SS.go (fun _ h => by cases h) ?_; try simp only [blockP, thenP]) | (with_reducible refine BB.go ?_; simp only [blockP, thenP, if_true, if_false, reduceIte]) | (refine AWp.draws tabOk (by kernel_rfl) (by kernel_rfl) ?_; simp [-getElem?_pos, z0, z1, z2, hlt, ht]) | (with_reducible refine And.intro (show okLog _ _ = true from by kernel_rfl) ?_))
      (first | refine Exec0.call [] ci ?_ rfl ?_ ?_ | refine Exec.call [] ci ?_ rfl ?_ ?_); (focus simp [-getElem?_pos, hne]); (focus simp [-getElem?_pos, z0, z1, z2, hne]); simp [-getElem?_pos, z0, z1, z2, hne]
      repeat (first | (with_reducible refine AWp.seqK fun _ => ?_) | (with_reducible refine AWp.blockK fun _ => ?_) | (with_reducible refine KK.go ?_) | (refine AWp.reg tabOk ?_; simp [-getElem?_pos, z0, z1, z2, hne, w1]) | (refine AWp.condK fun _ _ => ?_; simp [-getElem?_pos, z0, z1, z2, hne, w1]) | (refine AWp.ret ?_; try simp only [thenP]) | (refine AWp.skip ?_; try simp only [thenP]) | (refine AWp.exit ?_; try simp only [thenP]) | (with_reducible refine AWp.scopeK fun _ => ?_) | (refine AWp.label ?_; try simp only [thenP]) | (with_reducible refine SS.go (fun _ h => by cases h) ?_; try simp only [blockP, thenP]) | (with_reducible refine BB.go ?_; simp only [blockP, thenP, if_true, if_false, reduceIte]) | (refine AWp.draws tabOk (by kernel_rfl) (by kernel_rfl) ?_; simp [-getElem?_pos, z0, z1, z2, hne, w1]) | (with_reducible refine And.intro (show okLog _ _ = true from by kernel_rfl) ?_))
      refine LL.go ⟨k + 1, hlt, hall2⟩ [0] ⟨by rfl, by simp [], by simp [or_imp, forall_and, ] <;> (try (intro _hne; simp [_hne])), by decide⟩ ?_
      simp; omega
  obtain rfl : k = b.ts.length := by omega
  rw [List.take_of_length_le (Nat.le_refl _)] at hall
  repeat (first | (with_reducible refine AWp.seqK fun _ => ?_) | (with_reducible refine AWp.blockK fun _ => ?_) | (with_reducible refine KK.go ?_) | (refine AWp.reg tabOk ?_; simp [-getElem?_pos, z0, z1, z2, hlt]) | (refine AWp.condK fun _ _ => ?_; simp [-getElem?_pos, z0, z1, z2, hlt]) | (refine AWp.ret ?_; try simp only [thenP]) | (refine AWp.skip ?_; try simp only [thenP]) | (refine AWp.exit ?_; try simp only [thenP]) | (with_reducible refine AWp.scopeK fun _ => ?_) | (refine AWp.label ?_; try simp only [thenP]) | (with_reducible refine SS.go (fun _ h => by cases h) ?_; try simp only [blockP, thenP]) | (with_reducible refine BB.go ?_; simp only [blockP, thenP, if_true, if_false, reduceIte]) | (refine AWp.draws tabOk (by kernel_rfl) (by kernel_rfl) ?_; simp [-getElem?_pos, z0, z1, z2, hlt]) | (with_reducible refine And.intro (show okLog _ _ = true from by kernel_rfl) ?_))
  refine AWp.loopK (ι := { k : Nat // k ≤ b.ts.length ∧ (b.ts.take k).all difK = true }) (n := 1) (fun k => [(1, .ptr 0 0 0), (4, .d (iD k.1))]) (fun _ => [(0, .box 24 [.d (iD b.edges), .d (.list (ktRows b.ts))] false)]) (fun k => b.ts.length - k.1) ⟨0, Nat.zero_le _, by simp⟩ [0] ?_ ?_
  · refine ⟨by rfl, by simp [], by simp [or_imp, forall_and, ] <;> (try (intro _hne; simp [_hne])), by decide⟩
  rintro ⟨k, hk, hall3⟩ kk
  have w1 : IntKind.i64.wrap ((k : Int) + 1) = (k : Int) + 1 := wrap64_in (by omega)
  by_cases hlt : k < b.ts.length
  · obtain ⟨t, ht⟩ : ∃ t, b.ts[k]? = some t := ⟨_, List.getElem?_eq_getElem hlt⟩
    have ci := refIsTest_c b.edges t
    have ga : argK b.edges t = true := List.all_eq_true.1 hall t (List.mem_of_getElem? ht)
    rcases g : difK t
    · have hr' : r = 3 := hr.trans (bookErr_3 hn hall (allK_not ht g))
      rw [testErr_dif ga g] at ci
      repeat (first | (with_reducible refine AWp.seqK fun _ => ?_) | (with_reducible refine AWp.blockK fun _ => ?_) | (with_reducible refine KK.go ?_) | (refine AWp.reg tabOk ?_; simp [-getElem?_pos, z0, z1, z2, hlt, ht]) | (refine AWp.condK fun _ _ => ?_; simp [-getElem?_pos, z0, z1, z2, hlt, ht]) | (refine AWp.ret ?_; try simp only [thenP]) | (refine AWp.skip ?_; try simp only [thenP]) | (refine AWp.exit ?_; try simp only [thenP]) | (with_reducible refine AWp.scopeK fun _ => ?_) | (refine AWp.label ?_; try simp only [thenP]) | (with_reducible refine SS.go (fun _ h => by cases h) ?_; try simp only [blockP, thenP]) | (with_reducible refine BB.go ?_; simp only [blockP, thenP, if_true, if_false, reduceIte]) | (refine AWp.draws tabOk (by kernel_rfl) (by kernel_rfl) ?_; simp [-getElem?_pos, z0, z1, z2, hlt, ht]) | (with_reducible refine And.intro (show okLog _ _ = true from by kernel_rfl) ?_))
      (first | refine Exec0.call [] ci ?_ rfl ?_ ?_ | refine Exec.call [] ci ?_ rfl ?_ ?_); (focus simp [-getElem?_pos, ]); (focus simp [-getElem?_pos, z0, z1, z2, ]); simp [-getElem?_pos, z0, z1, z2, ]
      repeat (first | (with_reducible refine AWp.seqK fun _ => ?_) | (with_reducible refine AWp.blockK fun _ => ?_) | (with_reducible refine KK.go ?_) | (refine AWp.reg tabOk ?_; simp [-getElem?_pos, z0, z1, z2, ]) | (refine AWp.condK fun _ _ => ?_; simp [-getElem?_pos, z0, z1, z2, ]) | (refine AWp.ret ?_; try simp only [thenP]) | (refine AWp.skip ?_; try simp only [thenP]) | (refine AWp.exit ?_; try simp only [thenP]) | (with_reducible refine AWp.scopeK fun _ => ?_) | (refine AWp.label ?_; try simp only [thenP]) | (with_reducible refine SS.go (fun _ h => by cases h) ?_; try simp only [blockP, thenP]) | (with_reducible refine BB.go ?_; simp only [blockP, thenP, if_true, if_false, reduceIte]) | (refine AWp.draws tabOk (by kernel_rfl) (by kernel_rfl) ?_; simp [-getElem?_pos, z0, z1, z2, ]) | (with_reducible refine And.intro (show okLog _ _ = true from by kernel_rfl) ?_))
      (first | refine RR.ret ?_ | refine RR.normal ?_); simp [hr']
    · have hall4 : (b.ts.take (k + 1)).all difK = true := by rw [allK_take ht, hall3, g]; rfl
      rw [testErr_ok ga g] at ci
      repeat (first | (with_reducible refine AWp.seqK fun _ => ?_) | (with_reducible refine AWp.blockK fun _ => ?_) | (with_reducible refine KK.go ?_) | (refine AWp.reg tabOk ?_; simp [-getElem?_pos, z0, z1, z2, hlt, ht]) | (refine AWp.condK fun _ _ => ?_; simp [-getElem?_pos, z0, z1, z2, hlt, ht]) | (refine AWp.ret ?_; try simp only [thenP]) | (refine AWp.skip ?_; try simp only [thenP]) | (refine AWp.exit ?_; try simp only [thenP]) | (with_reducible refine AWp.scopeK fun _ => ?_) | (refine AWp.label ?_; try simp only [thenP]) | (with_reducible refine SS.go (fun _ h => by cases h) ?_; try simp only [blockP, thenP]) | (with_reducible refine BB.go ?_; simp only [blockP, thenP, if_true, if_false, reduceIte]) | (refine AWp.draws tabOk (by kernel_rfl) (by kernel_rfl) ?_; simp [-getElem?_pos, z0, z1, z2, hlt, ht]) | (with_reducible refine And.intro (show okLog _ _ = true from by kernel_rfl) ?_))
      (first | refine Exec0.call [] ci ?_ rfl ?_ ?_ | refine Exec.call [] ci ?_ rfl ?_ ?_); (focus simp [-getElem?_pos, ]); (focus simp [-getElem?_pos, z0, z1, z2, ]); simp [-getElem?_pos, z0, z1, z2, ]
      repeat (first | (with_reducible refine AWp.seqK fun _ => ?_) | (with_reducible refine AWp.blockK fun _ => ?_) | (with_reducible refine KK.go ?_) | (refine AWp.reg tabOk ?_; simp [-getElem?_pos, z0, z1, z2, w1]) | (refine AWp.condK fun _ _ => ?_; simp [-getElem?_pos, z0, z1, z2, w1]) | (refine AWp.ret ?_; try simp only [thenP]) | (refine AWp.skip ?_; try simp only [thenP]) | (refine AWp.exit ?_; try simp only [thenP]) | (with_reducible refine AWp.scopeK fun _ => ?_) | (refine AWp.label ?_; try simp only [thenP]) | (with_reducible refine SS.go (fun _ h => by cases h) ?_; try simp only [blockP, thenP]) | (with_reducible refine BB.go ?_; simp only [blockP, thenP, if_true, if_false, reduceIte]) | (refine AWp.draws tabOk (by kernel_rfl) (by kernel_rfl) ?_; simp [-getElem?_pos, z0, z1, z2, w1]) | (with_reducible refine And.intro (show okLog _ _ = true from by kernel_rfl) ?_))
      refine LL.go ⟨k + 1, hlt, hall4⟩ [0] ⟨by rfl, by simp [], by simp [or_imp, forall_and, ] <;> (try (intro _hne; simp [_hne])), by decide⟩ ?_
      simp; omega
  · obtain rfl : k = b.ts.length := by omega
    rw [List.take_of_length_le (Nat.le_refl _)] at hall3
    have hr' : r = 0 := hr.trans (bookErr_0 hn hall hall3)
    repeat (first | (with_reducible refine AWp.seqK fun _ => ?_) | (with_reducible refine AWp.blockK fun _ => ?_) | (with_reducible refine KK.go ?_) | (refine AWp.reg tabOk ?_; simp [-getElem?_pos, z0, z1, z2, hlt]) | (refine AWp.condK fun _ _ => ?_; simp [-getElem?_pos, z0, z1, z2, hlt]) | (refine AWp.ret ?_; try simp only [thenP]) | (refine AWp.skip ?_; try simp only [thenP]) | (refine AWp.exit ?_; try simp only [thenP]) | (with_reducible refine AWp.scopeK fun _ => ?_) | (refine AWp.label ?_; try simp only [thenP]) | (with_reducible refine SS.go (fun _ h => by cases h) ?_; try simp only [blockP, thenP]) | (with_reducible refine BB.go ?_; simp only [blockP, thenP, if_true, if_false, reduceIte]) | (refine AWp.draws tabOk (by kernel_rfl) (by kernel_rfl) ?_; simp [-getElem?_pos, z0, z1, z2, hlt]) | (with_reducible refine And.intro (show okLog _ _ = true from by kernel_rfl) ?_))
    (first | refine RR.ret ?_ | refine RR.normal ?_); simp [hr']
set_option maxRecDepth 100000 in
set_option maxHeartbeats 4000000 in
theorem checkBook_c (b : Book) : ACall Try.prog 18 [bookD b] (iD (bookErr b)) := by
  obtain ⟨r, hr⟩ : ∃ r, r = bookErr b := ⟨_, rfl⟩
  rw [← hr]
  have ca : ACall Try.prog 54 [iD 1, iD 16, .list [[iD b.edges]]] (bD (fromK 1 16 [b.edges])) := areFromI_c 1 16 [b.edges] (by simp)
  by_cases h12 : b.edges < 1 ∨ 16 < b.edges
  · have hr' : r = 6 := hr.trans (bookErr_6 (by omega))
    have hf : fromK 1 16 [b.edges] = false := by simp [fromK, inK]; omega
    rw [hf] at ca
    refine acallK tabOk Try.func18 rfl rfl (show 1 ≤ _ by decide) rfl fun _ => ?_; simp only [Try.ntmps18]
    repeat (first | (with_reducible refine AWp.seqK fun _ => ?_) | (with_reducible refine AWp.blockK fun _ => ?_) | (with_reducible refine KK.go ?_) | (refine AWp.reg tabOk ?_; simp [-getElem?_pos, z0, z1, z2, ]) | (refine AWp.condK fun _ _ => ?_; simp [-getElem?_pos, z0, z1, z2, ]) | (refine AWp.ret ?_; try simp only [thenP]) | (refine AWp.skip ?_; try simp only [thenP]) | (refine AWp.exit ?_; try simp only [thenP]) | (with_reducible refine AWp.scopeK fun _ => ?_) | (refine AWp.label ?_; try simp only [thenP]) | (with_reducible refine SS.go (fun _ h => by cases h) ?_; try simp only [blockP, thenP]) | (with_reducible refine BB.go ?_; simp only [blockP, thenP, if_true, if_false, reduceIte]) | (refine AWp.draws tabOk (by kernel_rfl) (by kernel_rfl) ?_; simp [-getElem?_pos, z0, z1, z2, ]) | (with_reducible refine And.intro (show okLog _ _ = true from by kernel_rfl) ?_))
    (first | refine Exec0.call [4] ca ?_ rfl ?_ ?_ | refine Exec.call [4] ca ?_ rfl ?_ ?_); (focus simp [-getElem?_pos, ]); (focus simp [-getElem?_pos, z0, z1, z2, ]); simp [-getElem?_pos, z0, z1, z2, ]
    repeat (first | (with_reducible refine AWp.seqK fun _ => ?_) | (with_reducible refine AWp.blockK fun _ => ?_) | (with_reducible refine KK.go ?_) | (refine AWp.reg tabOk ?_; simp [-getElem?_pos, z0, z1, z2, ]) | (refine AWp.condK fun _ _ => ?_; simp [-getElem?_pos, z0, z1, z2, ]) | (refine AWp.ret ?_; try simp only [thenP]) | (refine AWp.skip ?_; try simp only [thenP]) | (refine AWp.exit ?_; try simp only [thenP]) | (with_reducible refine AWp.scopeK fun _ => ?_) | (refine AWp.label ?_; try simp only [thenP]) | (with_reducible refine SS.go (fun _ h => by cases h) ?_; try simp only [blockP, thenP]) | (with_reducible refine BB.go ?_; simp only [blockP, thenP, if_true, if_false, reduceIte]) | (refine AWp.draws tabOk (by kernel_rfl) (by kernel_rfl) ?_; simp [-getElem?_pos, z0, z1, z2, ]) | (with_reducible refine And.intro (show okLog _ _ = true from by kernel_rfl) ?_))
    (first | refine RR.ret ?_ | refine RR.normal ?_); simp [hr']
  have hf : fromK 1 16 [b.edges] = true := by simp [fromK, inK]; omega
  rw [hf] at ca
  by_cases h3 : 40 < b.ts.length
  · have hr' : r = 6 := hr.trans (bookErr_6 (.inr (.inr h3)))
    have h3' : (40 : Int) < b.ts.length := by omega
    refine acallK tabOk Try.func18 rfl rfl (show 1 ≤ _ by decide) rfl fun _ => ?_; simp only [Try.ntmps18]
    repeat (first | (with_reducible refine AWp.seqK fun _ => ?_) | (with_reducible refine AWp.blockK fun _ => ?_) | (with_reducible refine KK.go ?_) | (refine AWp.reg tabOk ?_; simp [-getElem?_pos, z0, z1, z2, ]) | (refine AWp.condK fun _ _ => ?_; simp [-getElem?_pos, z0, z1, z2, ]) | (refine AWp.ret ?_; try simp only [thenP]) | (refine AWp.skip ?_; try simp only [thenP]) | (refine AWp.exit ?_; try simp only [thenP]) | (with_reducible refine AWp.scopeK fun _ => ?_) | (refine AWp.label ?_; try simp only [thenP]) | (with_reducible refine SS.go (fun _ h => by cases h) ?_; try simp only [blockP, thenP]) | (with_reducible refine BB.go ?_; simp only [blockP, thenP, if_true, if_false, reduceIte]) | (refine AWp.draws tabOk (by kernel_rfl) (by kernel_rfl) ?_; simp [-getElem?_pos, z0, z1, z2, ]) | (with_reducible refine And.intro (show okLog _ _ = true from by kernel_rfl) ?_))
    (first | refine Exec0.call [4] ca ?_ rfl ?_ ?_ | refine Exec.call [4] ca ?_ rfl ?_ ?_); (focus simp [-getElem?_pos, h3, h3']); (focus simp [-getElem?_pos, z0, z1, z2, h3, h3']); simp [-getElem?_pos, z0, z1, z2, h3, h3']
    repeat (first | (with_reducible refine AWp.seqK fun _ => ?_) | (with_reducible refine AWp.blockK fun _ => ?_) | (with_reducible refine KK.go ?_) | (refine AWp.reg tabOk ?_; simp [-getElem?_pos, z0, z1, z2, h3, h3']) | (refine AWp.condK fun _ _ => ?_; simp [-getElem?_pos, z0, z1, z2, h3, h3']) | (refine AWp.ret ?_; try simp only [thenP]) | (refine AWp.skip ?_; try simp only [thenP]) | (refine AWp.exit ?_; try simp only [thenP]) | (with_reducible refine AWp.scopeK fun _ => ?_) | (refine AWp.label ?_; try simp only [thenP]) | (with_reducible refine SS.go (fun _ h => by cases h) ?_; try simp only [blockP, thenP]) | (with_reducible refine BB.go ?_; simp only [blockP, thenP, if_true, if_false, reduceIte]) | (refine AWp.draws tabOk (by kernel_rfl) (by kernel_rfl) ?_; simp [-getElem?_pos, z0, z1, z2, h3, h3']) | (with_reducible refine And.intro (show okLog _ _ = true from by kernel_rfl) ?_))
    (first | refine RR.ret ?_ | refine RR.normal ?_); simp [hr']
  have h3' : ¬ (40 : Int) < b.ts.length := by omega
  have hn : ¬ (b.edges < 1 ∨ 16 < b.edges ∨ 40 < b.ts.length) := by omega
  refine acallK tabOk Try.func18 rfl rfl (show 1 ≤ _ by decide) rfl fun _ => ?_; simp only [Try.ntmps18]
  repeat (first | (with_reducible refine AWp.seqK fun _ => ?_) | (with_reducible refine AWp.blockK fun _ => ?_) | (with_reducible refine KK.go ?_) | (refine AWp.reg tabOk ?_; simp [-getElem?_pos, z0, z1, z2, ]) | (refine AWp.condK fun _ _ => ?_; simp [-getElem?_pos, z0, z1, z2, ]) | (refine AWp.ret ?_; try simp only [thenP]) | (refine AWp.skip ?_; try simp only [thenP]) | (refine AWp.exit ?_; try simp only [thenP]) | (with_reducible refine AWp.scopeK fun _ => ?_) | (refine AWp.label ?_; try simp only [thenP]) | (with_reducible refine SS.go (fun _ h => by cases h) ?_; try simp only [blockP, thenP]) | (with_reducible refine BB.go ?_; simp only [blockP, thenP, if_true, if_false, reduceIte]) | (refine AWp.draws tabOk (by kernel_rfl) (by kernel_rfl) ?_; simp [-getElem?_pos, z0, z1, z2, ]) | (with_reducible refine And.intro (show okLog _ _ = true from by kernel_rfl) ?_))
  (first | refine Exec0.call [4] ca ?_ rfl ?_ ?_ | refine Exec.call [4] ca ?_ rfl ?_ ?_); (focus simp [-getElem?_pos, h3, h3']); (focus simp [-getElem?_pos, z0, z1, z2, h3, h3']); simp [-getElem?_pos, z0, z1, z2, h3, h3']
  repeat (first | (with_reducible refine AWp.seqK fun _ => ?_) | (with_reducible refine AWp.blockK fun _ => ?_) | (with_reducible refine KK.go ?_) | (refine AWp.reg tabOk ?_; simp [-getElem?_pos, z0, z1, z2, h3, h3']) | (refine AWp.condK fun _ _ => ?_; simp [-getElem?_pos, z0, z1, z2, h3, h3']) | (refine AWp.ret ?_; try simp only [thenP]) | (refine AWp.skip ?_; try simp only [thenP]) | (refine AWp.exit ?_; try simp only [thenP]) | (with_reducible refine AWp.scopeK fun _ => ?_) | (refine AWp.label ?_; try simp only [thenP]) | (with_reducible refine SS.go (fun _ h => by cases h) ?_; try simp only [blockP, thenP]) | (with_reducible refine BB.go ?_; simp only [blockP, thenP, if_true, if_false, reduceIte]) | (refine AWp.draws tabOk (by kernel_rfl) (by kernel_rfl) ?_; simp [-getElem?_pos, z0, z1, z2, h3, h3']) | (with_reducible refine And.intro (show okLog _ _ = true from by kernel_rfl) ?_))
  refine AWp.loopK (ι := { k : Nat // k ≤ b.ts.length ∧ (b.ts.take k).all (argK b.edges) = true }) (n := 1) (fun k => [(1, .ptr 0 0 0), (19, .d (.list (ktRows b.ts))), (20, .d (iD b.ts.length)), (21, .d (iD k.1))]) (fun _ => [(0, .box 24 [.d (iD b.edges), .d (.list (ktRows b.ts))] false)]) (fun k => b.ts.length - k.1) ⟨0, Nat.zero_le _, by simp⟩ [0] ?_ ?_
  · refine ⟨by rfl, by simp [], by simp [or_imp, forall_and, ] <;> (try (intro _hne; simp [_hne])), by decide⟩
  rintro ⟨k, hk, hall⟩ kk
  have w1 : IntKind.i64.wrap ((k : Int) + 1) = (k : Int) + 1 := wrap64_in (by omega)
  by_cases hlt : k < b.ts.length
  · obtain ⟨t, ht⟩ : ∃ t, b.ts[k]? = some t := ⟨_, List.getElem?_eq_getElem hlt⟩
    have ci : ACall Try.prog 55 [bookD b, .list [[iD t.one], [iD t.two]]] (bD (argK b.edges t)) := areEdges_c b [t.one, t.two] (by omega) (by simp)
    rcases g : argK b.edges t <;> rw [g] at ci
    · have hr' : r = 2 := hr.trans (bookErr_2 hn (allK_not ht g))
      repeat (first | (with_reducible refine AWp.seqK fun _ => ?_) | (with_reducible refine AWp.blockK fun _ => ?_) | (with_reducible refine KK.go ?_) | (refine AWp.reg tabOk ?_; simp [-getElem?_pos, z0, z1, z2, hlt, ht]) | (refine AWp.condK fun _ _ => ?_; simp [-getElem?_pos, z0, z1, z2, hlt, ht]) | (refine AWp.ret ?_; try simp only [thenP]) | (refine AWp.skip ?_; try simp only [thenP]) | (refine AWp.exit ?_; try simp only [thenP]) | (with_reducible refine AWp.scopeK fun _ => ?_) | (refine AWp.label ?_; try simp only [thenP]) | (with_reducible refine SS.go (fun _ h => by cases h) ?_; try simp only [blockP, thenP]) | (with_reducible refine BB.go ?_; simp only [blockP, thenP, if_true, if_false, reduceIte]) | (refine AWp.draws tabOk (by kernel_rfl) (by kernel_rfl) ?_; simp [-getElem?_pos, z0, z1, z2, hlt, ht]) | (with_reducible refine And.intro (show okLog _ _ = true from by kernel_rfl) ?_))
      (first | refine Exec0.call [11] ci ?_ rfl ?_ ?_ | refine Exec.call [11] ci ?_ rfl ?_ ?_); (focus simp [-getElem?_pos, ]); (focus simp [-getElem?_pos, z0, z1, z2, ]); simp [-getElem?_pos, z0, z1, z2, ]
      repeat (first | (with_reducible refine AWp.seqK fun _ => ?_) | (with_reducible refine AWp.blockK fun _ => ?_) | (with_reducible refine KK.go ?_) | (refine AWp.reg tabOk ?_; simp [-getElem?_pos, z0, z1, z2, ]) | (refine AWp.condK fun _ _ => ?_; simp [-getElem?_pos, z0, z1, z2, ]) | (refine AWp.ret ?_; try simp only [thenP]) | (refine AWp.skip ?_; try simp only [thenP]) | (refine AWp.exit ?_; try simp only [thenP]) | (with_reducible refine AWp.scopeK fun _ => ?_) | (refine AWp.label ?_; try simp only [thenP]) | (with_reducible refine SS.go (fun _ h => by cases h) ?_; try simp only [blockP, thenP]) | (with_reducible refine BB.go ?_; simp only [blockP, thenP, if_true, if_false, reduceIte]) | (refine AWp.draws tabOk (by kernel_rfl) (by kernel_rfl) ?_; simp [-getElem?_pos, z0, z1, z2, ]) | (with_reducible refine And.intro (show okLog _ _ = true from by kernel_rfl) ?_))
      (first | refine RR.ret ?_ | refine RR.normal ?_); simp [hr']
    · have hall2 : (b.ts.take (k + 1)).all (argK b.edges) = true := by rw [allK_take ht, hall, g]; rfl
      repeat (first | (with_reducible refine AWp.seqK fun _ => ?_) | (with_reducible refine AWp.blockK fun _ => ?_) | (with_reducible refine KK.go ?_) | (refine AWp.reg tabOk ?_; simp [-getElem?_pos, z0, z1, z2, hlt, ht]) | (refine AWp.condK fun _ _ => ?_; simp [-getElem?_pos, z0, z1, z2, hlt, ht]) | (refine AWp.ret ?_; try simp only [thenP]) | (refine AWp.skip ?_; try simp only [thenP]) | (refine AWp.exit ?_; try simp only [thenP]) | (with_reducible refine AWp.scopeK fun _ => ?_) | (refine AWp.label ?_; try simp only [thenP]) | (with_reducible refine SS.go (fun _ h => by cases h) ?_; try simp only [blockP, thenP]) | (with_reducible refine BB.go ?_; simp only [blockP, thenP, if_true, if_false, reduceIte]) | (refine AWp.draws tabOk (by kernel_rfl) (by kernel_rfl) ?_; simp [-getElem?_pos, z0, z1, z2, hlt, ht]) | (with_reducible refine And.intro (show okLog _ _ = true from by kernel_rfl) ?_))
      (first | refine Exec0.call [11] ci ?_ rfl ?_ ?_ | refine Exec.call [11] ci ?_ rfl ?_ ?_); (focus simp [-getElem?_pos, ]); (focus simp [-getElem?_pos, z0, z1, z2, ]); simp [-getElem?_pos, z0, z1, z2, ]
      repeat (first | (with_reducible refine AWp.seqK fun _ => ?_) | (with_reducible refine AWp.blockK fun _ => ?_) | (with_reducible refine KK.go ?_) | (refine AWp.reg tabOk ?_; simp [-getElem?_pos, z0, z1, z2, w1]) | (refine AWp.condK fun _ _ => ?_; simp [-getElem?_pos, z0, z1, z2, w1]) | (refine AWp.ret ?_; try simp only [thenP]) | (refine AWp.skip ?_; try simp only [thenP]) | (refine AWp.exit ?_; try simp only [thenP]) | (with_reducible refine AWp.scopeK fun _ => ?_) | (refine AWp.label ?_; try simp only [thenP]) | (with_reducible refine SS.go (fun _ h => by cases h) ?_; try simp only [blockP, thenP]) | (with_reducible refine BB.go ?_; simp only [blockP, thenP, if_true, if_false, reduceIte]) | (refine AWp.draws tabOk (by kernel_rfl) (by kernel_rfl) ?_; simp [-getElem?_pos, z0, z1, z2, w1]) | (with_reducible refine And.intro (show okLog _ _ = true from by kernel_rfl) ?_))
      refine LL.go ⟨k + 1, hlt, hall2⟩ [0] ⟨by rfl, by simp [], by simp [or_imp, forall_and, ] <;> (try (intro _hne; simp [_hne])), by decide⟩ ?_
      simp; omega
  obtain rfl : k = b.ts.length := by omega
  rw [List.take_of_length_le (Nat.le_refl _)] at hall
  repeat (first | (with_reducible refine AWp.seqK fun _ => ?_) | (with_reducible refine AWp.blockK fun _ => ?_) | (with_reducible refine KK.go ?_) | (refine AWp.reg tabOk ?_; simp [-getElem?_pos, z0, z1, z2, hlt]) | (refine AWp.condK fun _ _ => ?_; simp [-getElem?_pos, z0, z1, z2, hlt]) | (refine AWp.ret ?_; try simp only [thenP]) | (refine AWp.skip ?_; try simp only [thenP]) | (refine AWp.exit ?_; try simp only [thenP]) | (with_reducible refine AWp.scopeK fun _ => ?_) | (refine AWp.label ?_; try simp only [thenP]) | (with_reducible refine SS.go (fun _ h => by cases h) ?_; try simp only [blockP, thenP]) | (with_reducible refine BB.go ?_; simp only [blockP, thenP, if_true, if_false, reduceIte]) | (refine AWp.draws tabOk (by kernel_rfl) (by kernel_rfl) ?_; simp [-getElem?_pos, z0, z1, z2, hlt]) | (with_reducible refine And.intro (show okLog _ _ = true from by kernel_rfl) ?_))
  refine AWp.loopK (ι := { k : Nat // k ≤ b.ts.length ∧ (b.ts.take k).all difK = true }) (n := 1) (fun k => [(1, .ptr 0 0 0), (35, .d (.list (ktRows b.ts))), (36, .d (iD b.ts.length)), (37, .d (iD k.1))]) (fun _ => [(0, .box 24 [.d (iD b.edges), .d (.list (ktRows b.ts))] false)]) (fun k => b.ts.length - k.1) ⟨0, Nat.zero_le _, by simp⟩ [0] ?_ ?_
  · refine ⟨by rfl, by simp [], by simp [or_imp, forall_and, ] <;> (try (intro _hne; simp [_hne])), by decide⟩
  rintro ⟨k, hk, hall3⟩ kk
  have w1 : IntKind.i64.wrap ((k : Int) + 1) = (k : Int) + 1 := wrap64_in (by omega)
  by_cases hlt : k < b.ts.length
  · obtain ⟨t, ht⟩ : ∃ t, b.ts[k]? = some t := ⟨_, List.getElem?_eq_getElem hlt⟩
    have ci : ACall Try.prog 56 [.agg [iD t.lo, iD t.hi]] (bD (difK t)) := isDiff_c t.lo t.hi
    rcases g : difK t <;> rw [g] at ci
    · have hr' : r = 3 := hr.trans (bookErr_3 hn hall (allK_not ht g))
      repeat (first | (with_reducible refine AWp.seqK fun _ => ?_) | (with_reducible refine AWp.blockK fun _ => ?_) | (with_reducible refine KK.go ?_) | (refine AWp.reg tabOk ?_; simp [-getElem?_pos, z0, z1, z2, hlt, ht]) | (refine AWp.condK fun _ _ => ?_; simp [-getElem?_pos, z0, z1, z2, hlt, ht]) | (refine AWp.ret ?_; try simp only [thenP]) | (refine AWp.skip ?_; try simp only [thenP]) | (refine AWp.exit ?_; try simp only [thenP]) | (with_reducible refine AWp.scopeK fun _ => ?_) | (refine AWp.label ?_; try simp only [thenP]) | (with_reducible refine SS.go (fun _ h => by cases h) ?_; try simp only [blockP, thenP]) | (with_reducible refine BB.go ?_; simp only [blockP, thenP, if_true, if_false, reduceIte]) | (refine AWp.draws tabOk (by kernel_rfl) (by kernel_rfl) ?_; simp [-getElem?_pos, z0, z1, z2, hlt, ht]) | (with_reducible refine And.intro (show okLog _ _ = true from by kernel_rfl) ?_))
      (first | refine Exec0.call [] ci ?_ rfl ?_ ?_ | refine Exec.call [] ci ?_ rfl ?_ ?_); (focus simp [-getElem?_pos, ]); (focus simp [-getElem?_pos, z0, z1, z2, ]); simp [-getElem?_pos, z0, z1, z2, ]
      repeat (first | (with_reducible refine AWp.seqK fun _ => ?_) | (with_reducible refine AWp.blockK fun _ => ?_) | (with_reducible refine KK.go ?_) | (refine AWp.reg tabOk ?_; simp [-getElem?_pos, z0, z1, z2, ]) | (refine AWp.condK fun _ _ => ?_; simp [-getElem?_pos, z0, z1, z2, ]) | (refine AWp.ret ?_; try simp only [thenP]) | (refine AWp.skip ?_; try simp only [thenP]) | (refine AWp.exit ?_; try simp only [thenP]) | (with_reducible refine AWp.scopeK fun _ => ?_) | (refine AWp.label ?_; try simp only [thenP]) | (with_reducible refine SS.go (fun _ h => by cases h) ?_; try simp only [blockP, thenP]) | (with_reducible refine BB.go ?_; simp only [blockP, thenP, if_true, if_false, reduceIte]) | (refine AWp.draws tabOk (by kernel_rfl) (by kernel_rfl) ?_; simp [-getElem?_pos, z0, z1, z2, ]) | (with_reducible refine And.intro (show okLog _ _ = true from by kernel_rfl) ?_))
      (first | refine RR.ret ?_ | refine RR.normal ?_); simp [hr']
    · have hall4 : (b.ts.take (k + 1)).all difK = true := by rw [allK_take ht, hall3, g]; rfl
      repeat (first | (with_reducible refine AWp.seqK fun _ => ?_) | (with_reducible refine AWp.blockK fun _ => ?_) | (with_reducible refine KK.go ?_) | (refine AWp.reg tabOk ?_; simp [-getElem?_pos, z0, z1, z2, hlt, ht]) | (refine AWp.condK fun _ _ => ?_; simp [-getElem?_pos, z0, z1, z2, hlt, ht]) | (refine AWp.ret ?_; try simp only [thenP]) | (refine AWp.skip ?_; try simp only [thenP]) | (refine AWp.exit ?_; try simp only [thenP]) | (with_reducible refine AWp.scopeK fun _ => ?_) | (refine AWp.label ?_; try simp only [thenP]) | (with_reducible refine SS.go (fun _ h => by cases h) ?_; try simp only [blockP, thenP]) | (with_reducible refine BB.go ?_; simp only [blockP, thenP, if_true, if_false, reduceIte]) | (refine AWp.draws tabOk (by kernel_rfl) (by kernel_rfl) ?_; simp [-getElem?_pos, z0, z1, z2, hlt, ht]) | (with_reducible refine And.intro (show okLog _ _ = true from by kernel_rfl) ?_))
      (first | refine Exec0.call [] ci ?_ rfl ?_ ?_ | refine Exec.call [] ci ?_ rfl ?_ ?_); (focus simp [-getElem?_pos, ]); (focus simp [-getElem?_pos, z0, z1, z2, ]); simp [-getElem?_pos, z0, z1, z2, ]
      repeat (first | (with_reducible refine AWp.seqK fun _ => ?_) | (with_reducible refine AWp.blockK fun _ => ?_) | (with_reducible refine KK.go ?_) | (refine AWp.reg tabOk ?_; simp [-getElem?_pos, z0, z1, z2, w1]) | (refine AWp.condK fun _ _ => ?_; simp [-getElem?_pos, z0, z1, z2, w1]) | (refine AWp.ret ?_; try simp only [thenP]) | (refine AWp.skip ?_; try simp only [thenP]) | (refine AWp.exit ?_; try simp only [thenP]) | (with_reducible refine AWp.scopeK fun _ => ?_) | (refine AWp.label ?_; try simp only [thenP]) | (with_reducible refine SS.go (fun _ h => by cases h) ?_; try simp only [blockP, thenP]) | (with_reducible refine BB.go ?_; simp only [blockP, thenP, if_true, if_false, reduceIte]) | (refine AWp.draws tabOk (by kernel_rfl) (by kernel_rfl) ?_; simp [-getElem?_pos, z0, z1, z2, w1]) | (with_reducible refine And.intro (show okLog _ _ = true from by kernel_rfl) ?_))
      refine LL.go ⟨k + 1, hlt, hall4⟩ [0] ⟨by rfl, by simp [], by simp [or_imp, forall_and, ] <;> (try (intro _hne; simp [_hne])), by decide⟩ ?_
      simp; omega
  · obtain rfl : k = b.ts.length := by omega
    rw [List.take_of_length_le (Nat.le_refl _)] at hall3
    have hr' : r = 0 := hr.trans (bookErr_0 hn hall hall3)
    repeat (first | (with_reducible refine AWp.seqK fun _ => ?_) | (with_reducible refine AWp.blockK fun _ => ?_) | (with_reducible refine KK.go ?_) | (refine AWp.reg tabOk ?_; simp [-getElem?_pos, z0, z1, z2, hlt]) | (refine AWp.condK fun _ _ => ?_; simp [-getElem?_pos, z0, z1, z2, hlt]) | (refine AWp.ret ?_; try simp only [thenP]) | (refine AWp.skip ?_; try simp only [thenP]) | (refine AWp.exit ?_; try simp only [thenP]) | (with_reducible refine AWp.scopeK fun _ => ?_) | (refine AWp.label ?_; try simp only [thenP]) | (with_reducible refine SS.go (fun _ h => by cases h) ?_; try simp only [blockP, thenP]) | (with_reducible refine BB.go ?_; simp only [blockP, thenP, if_true, if_false, reduceIte]) | (refine AWp.draws tabOk (by kernel_rfl) (by kernel_rfl) ?_; simp [-getElem?_pos, z0, z1, z2, hlt]) | (with_reducible refine And.intro (show okLog _ _ = true from by kernel_rfl) ?_))
    (first | refine RR.ret ?_ | refine RR.normal ?_); simp [hr']
end Go.Proofs.Ytielmlnmjiooiaa.Eng

/-
  Layer 5: truths; the law KeenBooks.
-/
namespace Go.Proofs.Ytielmlnmjiooiaa.Eng
open Go.RowKit

def atK (l : List Int) (n : Int) : Int := l.getD n.toNat 0
def fitK (l : List Int) (t : KT) : Bool := inK (atK l t.one - atK l t.two) t.lo t.hi
def truthErr (b : Book) (l : List Int) : Int := if bookErr b ≠ 0 then bookErr b else if (l.length : Int) ≠ b.edges then 15 else if fromK 0 1000 l = false then 3 else if b.ts.all (fitK l) = false then 16 else 0
theorem truthErr_b {b : Book} {l : List Int} (h : bookErr b ≠ 0) : truthErr b l = bookErr b := if_pos h
theorem truthErr_15 {b : Book} {l : List Int} (h : bookErr b = 0) (h2 : (l.length : Int) ≠ b.edges) : truthErr b l = 15 := by rw [truthErr, if_neg (by simp [h]), if_pos h2]
theorem truthErr_3 {b : Book} {l : List Int} (h : bookErr b = 0) (h2 : (l.length : Int) = b.edges) (h3 : fromK 0 1000 l = false) : truthErr b l = 3 := by rw [truthErr, if_neg (by simp [h]), if_neg (by simp [h2]), if_pos h3]
theorem truthErr_16 {b : Book} {l : List Int} (h : bookErr b = 0) (h2 : (l.length : Int) = b.edges) (h3 : fromK 0 1000 l = true) (h4 : b.ts.all (fitK l) = false) : truthErr b l = 16 := by rw [truthErr, if_neg (by simp [h]), if_neg (by simp [h2]), if_neg (by simp [h3]), if_pos h4]
theorem truthErr_0 {b : Book} {l : List Int} (h : bookErr b = 0) (h2 : (l.length : Int) = b.edges) (h3 : fromK 0 1000 l = true) (h4 : b.ts.all (fitK l) = true) : truthErr b l = 0 := by rw [truthErr, if_neg (by simp [h]), if_neg (by simp [h2]), if_neg (by simp [h3]), if_neg (by simp [h4])]
theorem fromK_mem {lo hi : Int} {l : List Int} (h : fromK lo hi l = true) {k : Nat} {x : Int} (hx : l[k]? = some x) : lo ≤ x ∧ x ≤ hi := of_decide_eq_true (List.all_eq_true.1 h x (List.mem_of_getElem? hx))
theorem atK_get {l : List Int} {k : Nat} {x : Int} (h : l[k]? = some x) : atK l k = x := by simp [atK, List.getD_eq_getElem?_getD, h]
set_option maxRecDepth 100000 in
set_option maxHeartbeats 4000000 in
theorem refCheckTruth_c (b : Book) (l : List Int) : ACall Try.prog 21 [bookD b, intL l] (iD (truthErr b l)) := by
  obtain ⟨r, hr⟩ : ∃ r, r = truthErr b l := ⟨_, rfl⟩
  rw [← hr]
  have cb := refCheckBook_c b
  by_cases h0 : bookErr b = 0
  · have ok := bookOk h0
    have he2 := ok.e2
    have hn := ok.n
    rw [h0] at cb
    by_cases h1 : (l.length : Int) = b.edges
    · refine acallK tabOk Try.func21 rfl rfl (show 2 ≤ _ by decide) rfl fun _ => ?_; simp only [Try.ntmps21]
      repeat (first | (with_reducible refine AWp.seqK fun _ => ?_) | (with_reducible refine AWp.blockK fun _ => ?_) | (with_reducible refine KK.go ?_) | (refine AWp.reg tabOk ?_; simp [-getElem?_pos, z0, z1, z2, ]) | (refine AWp.condK fun _ _ => ?_; simp [-getElem?_pos, z0, z1, z2, ]) | (refine AWp.ret ?_; try simp only [thenP]) | (refine AWp.skip ?_; try simp only [thenP]) | (refine AWp.exit ?_; try simp only [thenP]) | (with_reducible refine AWp.scopeK fun _ => ?_) | (refine AWp.label ?_; try simp only [thenP]) | (with_reducible refine SS.go (fun _ h => by cases h) ?_; try simp only [blockP, thenP]) | (with_reducible refine BB.go ?_; simp only [blockP, thenP, if_true, if_false, reduceIte]) | (refine AWp.draws tabOk (by kernel_rfl) (by kernel_rfl) ?_; simp [-getElem?_pos, z0, z1, z2, ]) | (with_reducible refine And.intro (show okLog _ _ = true from by kernel_rfl) ?_))
      (first | refine Exec0.call [] cb ?_ rfl ?_ ?_ | refine Exec.call [] cb ?_ rfl ?_ ?_); (focus simp [-getElem?_pos, ]); (focus simp [-getElem?_pos, z0, z1, z2, ]); simp [-getElem?_pos, z0, z1, z2, ]
      repeat (first | (with_reducible refine AWp.seqK fun _ => ?_) | (with_reducible refine AWp.blockK fun _ => ?_) | (with_reducible refine KK.go ?_) | (refine AWp.reg tabOk ?_; simp [-getElem?_pos, z0, z1, z2, h1]) | (refine AWp.condK fun _ _ => ?_; simp [-getElem?_pos, z0, z1, z2, h1]) | (refine AWp.ret ?_; try simp only [thenP]) | (refine AWp.skip ?_; try simp only [thenP]) | (refine AWp.exit ?_; try simp only [thenP]) | (with_reducible refine AWp.scopeK fun _ => ?_) | (refine AWp.label ?_; try simp only [thenP]) | (with_reducible refine SS.go (fun _ h => by cases h) ?_; try simp only [blockP, thenP]) | (with_reducible refine BB.go ?_; simp only [blockP, thenP, if_true, if_false, reduceIte]) | (refine AWp.draws tabOk (by kernel_rfl) (by kernel_rfl) ?_; simp [-getElem?_pos, z0, z1, z2, h1]) | (with_reducible refine And.intro (show okLog _ _ = true from by kernel_rfl) ?_))
      refine AWp.loopK (ι := { k : Nat // k ≤ l.length ∧ fromK 0 1000 (l.take k) = true }) (n := 1) (fun k => [(1, .d (intL l)), (2, .ptr 0 0 0), (5, .d (iD k.1))]) (fun _ => [(0, .box 24 [.d (iD b.edges), .d (.list (ktRows b.ts))] false)]) (fun k => l.length - k.1) ⟨0, Nat.zero_le _, by simp [fromK]⟩ [0] ?_ ?_
      · refine ⟨by rfl, by simp [], by simp [or_imp, forall_and, ] <;> (try (intro _hne; simp [_hne])), by decide⟩
      rintro ⟨k, hk, hall⟩ kk
      have w1 : IntKind.i64.wrap ((k : Int) + 1) = (k : Int) + 1 := wrap64_in (by omega)
      by_cases hlt : k < l.length
      · obtain ⟨x, hx⟩ : ∃ x, l[k]? = some x := ⟨_, List.getElem?_eq_getElem hlt⟩
        by_cases g : x < 0
        · have hr' : r = 3 := hr.trans (truthErr_3 h0 h1 (allK_not hx (p := fun x => inK x 0 1000) (decide_eq_false fun h => by omega)))
          repeat (first | (with_reducible refine AWp.seqK fun _ => ?_) | (with_reducible refine AWp.blockK fun _ => ?_) | (with_reducible refine KK.go ?_) | (refine AWp.reg tabOk ?_; simp [-getElem?_pos, z0, z1, z2, hlt, hx, g]) | (refine AWp.condK fun _ _ => ?_; simp [-getElem?_pos, z0, z1, z2, hlt, hx, g]) | (refine AWp.ret ?_; try simp only [thenP]) | (refine AWp.skip ?_; try simp only [thenP]) | (refine AWp.exit ?_; try simp only [thenP]) | (with_reducible refine AWp.scopeK fun _ => ?_) | (refine AWp.label ?_; try simp only [thenP]) | (with_reducible refine SS.go (fun _ h => by cases h) ?_; try simp only [blockP, thenP]) | (with_reducible refine BB.go ?_; simp only [blockP, thenP, if_true, if_false, reduceIte]) | (refine AWp.draws tabOk (by kernel_rfl) (by kernel_rfl) ?_; simp [-getElem?_pos, z0, z1, z2, hlt, hx, g]) | (with_reducible refine And.intro (show okLog _ _ = true from by kernel_rfl) ?_))
          (first | refine RR.ret ?_ | refine RR.normal ?_); simp [hr']
        by_cases g2 : 1000 < x
        · have hr' : r = 3 := hr.trans (truthErr_3 h0 h1 (allK_not hx (p := fun x => inK x 0 1000) (decide_eq_false fun h => by omega)))
          repeat (first | (with_reducible refine AWp.seqK fun _ => ?_) | (with_reducible refine AWp.blockK fun _ => ?_) | (with_reducible refine KK.go ?_) | (refine AWp.reg tabOk ?_; simp [-getElem?_pos, z0, z1, z2, hlt, hx, g, g2]) | (refine AWp.condK fun _ _ => ?_; simp [-getElem?_pos, z0, z1, z2, hlt, hx, g, g2]) | (refine AWp.ret ?_; try simp only [thenP]) | (refine AWp.skip ?_; try simp only [thenP]) | (refine AWp.exit ?_; try simp only [thenP]) | (with_reducible refine AWp.scopeK fun _ => ?_) | (refine AWp.label ?_; try simp only [thenP]) | (with_reducible refine SS.go (fun _ h => by cases h) ?_; try simp only [blockP, thenP]) | (with_reducible refine BB.go ?_; simp only [blockP, thenP, if_true, if_false, reduceIte]) | (refine AWp.draws tabOk (by kernel_rfl) (by kernel_rfl) ?_; simp [-getElem?_pos, z0, z1, z2, hlt, hx, g, g2]) | (with_reducible refine And.intro (show okLog _ _ = true from by kernel_rfl) ?_))
          (first | refine RR.ret ?_ | refine RR.normal ?_); simp [hr']
        · have hall2 : fromK 0 1000 (l.take (k + 1)) = true := by
            unfold fromK at hall ⊢
            rw [allK_take hx, hall, Bool.true_and]
            exact decide_eq_true ⟨by omega, by omega⟩
          repeat (first | (with_reducible refine AWp.seqK fun _ => ?_) | (with_reducible refine AWp.blockK fun _ => ?_) | (with_reducible refine KK.go ?_) | (refine AWp.reg tabOk ?_; simp [-getElem?_pos, z0, z1, z2, hlt, hx, g, g2, w1]) | (refine AWp.condK fun _ _ => ?_; simp [-getElem?_pos, z0, z1, z2, hlt, hx, g, g2, w1]) | (refine AWp.ret ?_; try simp only [thenP]) | (refine AWp.skip ?_; try simp only [thenP]) | (refine AWp.exit ?_; try simp only [thenP]) | (with_reducible refine AWp.scopeK fun _ => ?_) | (refine AWp.label ?_; try simp only [thenP]) | (with_reducible refine SS.go (fun _ h => by cases h) ?_; try simp only [blockP, thenP]) | (with_reducible refine BB.go ?_; simp only [blockP, thenP, if_true, if_false, reduceIte]) | (refine AWp.draws tabOk (by kernel_rfl) (by kernel_rfl) ?_; simp [-getElem?_pos, z0, z1, z2, hlt, hx, g, g2, w1]) | (with_reducible refine And.intro (show okLog _ _ = true from by kernel_rfl) ?_))
          refine LL.go ⟨k + 1, hlt, hall2⟩ [0] ⟨by rfl, by simp [], by simp [or_imp, forall_and, ] <;> (try (intro _hne; simp [_hne])), by decide⟩ ?_
          simp; omega
      obtain rfl : k = l.length := by omega
      rw [List.take_of_length_le (Nat.le_refl _)] at hall
      repeat (first | (with_reducible refine AWp.seqK fun _ => ?_) | (with_reducible refine AWp.blockK fun _ => ?_) | (with_reducible refine KK.go ?_) | (refine AWp.reg tabOk ?_; simp [-getElem?_pos, z0, z1, z2, hlt]) | (refine AWp.condK fun _ _ => ?_; simp [-getElem?_pos, z0, z1, z2, hlt]) | (refine AWp.ret ?_; try simp only [thenP]) | (refine AWp.skip ?_; try simp only [thenP]) | (refine AWp.exit ?_; try simp only [thenP]) | (with_reducible refine AWp.scopeK fun _ => ?_) | (refine AWp.label ?_; try simp only [thenP]) | (with_reducible refine SS.go (fun _ h => by cases h) ?_; try simp only [blockP, thenP]) | (with_reducible refine BB.go ?_; simp only [blockP, thenP, if_true, if_false, reduceIte]) | (refine AWp.draws tabOk (by kernel_rfl) (by kernel_rfl) ?_; simp [-getElem?_pos, z0, z1, z2, hlt]) | (with_reducible refine And.intro (show okLog _ _ = true from by kernel_rfl) ?_))
      refine AWp.loopK (ι := { k : Nat // k ≤ b.ts.length ∧ (b.ts.take k).all (fitK l) = true }) (n := 1) (fun k => [(1, .d (intL l)), (2, .ptr 0 0 0), (6, .d (iD k.1))]) (fun _ => [(0, .box 24 [.d (iD b.edges), .d (.list (ktRows b.ts))] false)]) (fun k => b.ts.length - k.1) ⟨0, Nat.zero_le _, by simp⟩ [0] ?_ ?_
      · refine ⟨by rfl, by simp [], by simp [or_imp, forall_and, ] <;> (try (intro _hne; simp [_hne])), by decide⟩
      rintro ⟨k, hk, hall3⟩ kk
      have w1 : IntKind.i64.wrap ((k : Int) + 1) = (k : Int) + 1 := wrap64_in (by omega)
      by_cases hlt : k < b.ts.length
      · obtain ⟨⟨one, two, lo, hi⟩, ht⟩ : ∃ t, b.ts[k]? = some t := ⟨_, List.getElem?_eq_getElem hlt⟩
        have ha := ok.arg _ (List.mem_of_getElem? ht)
        simp only at ha
        obtain ⟨i, rfl⟩ := Int.eq_ofNat_of_zero_le ha.1.1
        obtain ⟨j, rfl⟩ := Int.eq_ofNat_of_zero_le ha.2.1.1
        have hi1 : i < l.length := by omega
        have hj1 : j < l.length := by omega
        obtain ⟨x, hx⟩ : ∃ x, l[i]? = some x := ⟨_, List.getElem?_eq_getElem hi1⟩
        obtain ⟨y, hy⟩ : ∃ y, l[j]? = some y := ⟨_, List.getElem?_eq_getElem hj1⟩
        have bx := fromK_mem hall hx
        have by' := fromK_mem hall hy
        have wd : IntKind.i64.wrap (x - y) = x - y := wrap64_in (by omega)
        have hfit : fitK l ⟨i, j, lo, hi⟩ = inK (x - y) lo hi := by rw [fitK, atK_get hx, atK_get hy]
        by_cases g : x - y < lo
        · have hr' : r = 16 := hr.trans (truthErr_16 h0 h1 hall (allK_not ht (hfit.trans (decide_eq_false fun h => by omega))))
          repeat (first | (with_reducible refine AWp.seqK fun _ => ?_) | (with_reducible refine AWp.blockK fun _ => ?_) | (with_reducible refine KK.go ?_) | (refine AWp.reg tabOk ?_; simp [-getElem?_pos, z0, z1, z2, hlt, ht, hx, hy, wd, g]) | (refine AWp.condK fun _ _ => ?_; simp [-getElem?_pos, z0, z1, z2, hlt, ht, hx, hy, wd, g]) | (refine AWp.ret ?_; try simp only [thenP]) | (refine AWp.skip ?_; try simp only [thenP]) | (refine AWp.exit ?_; try simp only [thenP]) | (with_reducible refine AWp.scopeK fun _ => ?_) | (refine AWp.label ?_; try simp only [thenP]) | (with_reducible refine SS.go (fun _ h => by cases h) ?_; try simp only [blockP, thenP]) | (with_reducible refine BB.go ?_; simp only [blockP, thenP, if_true, if_false, reduceIte]) | (refine AWp.draws tabOk (by kernel_rfl) (by kernel_rfl) ?_; simp [-getElem?_pos, z0, z1, z2, hlt, ht, hx, hy, wd, g]) | (with_reducible refine And.intro (show okLog _ _ = true from by kernel_rfl) ?_))
          (first | refine RR.ret ?_ | refine RR.normal ?_); simp [hr']
        by_cases g2 : hi < x - y
        · have hr' : r = 16 := hr.trans (truthErr_16 h0 h1 hall (allK_not ht (hfit.trans (decide_eq_false fun h => by omega))))
          repeat (first | (with_reducible refine AWp.seqK fun _ => ?_) | (with_reducible refine AWp.blockK fun _ => ?_) | (with_reducible refine KK.go ?_) | (refine AWp.reg tabOk ?_; simp [-getElem?_pos, z0, z1, z2, hlt, ht, hx, hy, wd, g, g2]) | (refine AWp.condK fun _ _ => ?_; simp [-getElem?_pos, z0, z1, z2, hlt, ht, hx, hy, wd, g, g2]) | (refine AWp.ret ?_; try simp only [thenP]) | (refine AWp.skip ?_; try simp only [thenP]) | (refine AWp.exit ?_; try simp only [thenP]) | (with_reducible refine AWp.scopeK fun _ => ?_) | (refine AWp.label ?_; try simp only [thenP]) | (with_reducible refine SS.go (fun _ h => by cases h) ?_; try simp only [blockP, thenP]) | (with_reducible refine BB.go ?_; simp only [blockP, thenP, if_true, if_false, reduceIte]) | (refine AWp.draws tabOk (by kernel_rfl) (by kernel_rfl) ?_; simp [-getElem?_pos, z0, z1, z2, hlt, ht, hx, hy, wd, g, g2]) | (with_reducible refine And.intro (show okLog _ _ = true from by kernel_rfl) ?_))
          (first | refine RR.ret ?_ | refine RR.normal ?_); simp [hr']
        · have hall4 : (b.ts.take (k + 1)).all (fitK l) = true := by
            rw [allK_take ht, hall3, Bool.true_and, hfit]
            exact decide_eq_true ⟨by omega, by omega⟩
          repeat (first | (with_reducible refine AWp.seqK fun _ => ?_) | (with_reducible refine AWp.blockK fun _ => ?_) | (with_reducible refine KK.go ?_) | (refine AWp.reg tabOk ?_; simp [-getElem?_pos, z0, z1, z2, hlt, ht, hx, hy, wd, g, g2, w1]) | (refine AWp.condK fun _ _ => ?_; simp [-getElem?_pos, z0, z1, z2, hlt, ht, hx, hy, wd, g, g2, w1]) | (refine AWp.ret ?_; try simp only [thenP]) | (refine AWp.skip ?_; try simp only [thenP]) | (refine AWp.exit ?_; try simp only [thenP]) | (with_reducible refine AWp.scopeK fun _ => ?_) | (refine AWp.label ?_; try simp only [thenP]) | (with_reducible refine SS.go (fun _ h => by cases h) ?_; try simp only [blockP, thenP]) | (with_reducible refine BB.go ?_; simp only [blockP, thenP, if_true, if_false, reduceIte]) | (refine AWp.draws tabOk (by kernel_rfl) (by kernel_rfl) ?_; simp [-getElem?_pos, z0, z1, z2, hlt, ht, hx, hy, wd, g, g2, w1]) | (with_reducible refine And.intro (show okLog _ _ = true from by kernel_rfl) ?_))
          refine LL.go ⟨k + 1, hlt, hall4⟩ [0] ⟨by rfl, by simp [], by simp [or_imp, forall_and, ] <;> (try (intro _hne; simp [_hne])), by decide⟩ ?_
          simp; omega
      · obtain rfl : k = b.ts.length := by omega
        rw [List.take_of_length_le (Nat.le_refl _)] at hall3
        have hr' : r = 0 := hr.trans (truthErr_0 h0 h1 hall hall3)
        repeat (first | (with_reducible refine AWp.seqK fun _ => ?_) | (with_reducible refine AWp.blockK fun _ => ?_) | (with_reducible refine KK.go ?_) | (refine AWp.reg tabOk ?_; simp [-getElem?_pos, z0, z1, z2, hlt]) | (refine AWp.condK fun _ _ => ?_; simp [-getElem?_pos, z0, z1, z2, hlt]) | (refine AWp.ret ?_; try simp only [thenP]) | (refine AWp.skip ?_; try simp only [thenP]) | (refine AWp.exit ?_; try simp only [thenP]) | (with_reducible refine AWp.scopeK fun _ => ?_) | (refine AWp.label ?_; try simp only [thenP]) | (with_reducible refine SS.go (fun _ h => by cases h) ?_; try simp only [blockP, thenP]) | (with_reducible refine BB.go ?_; simp only [blockP, thenP, if_true, if_false, reduceIte]) | (refine AWp.draws tabOk (by kernel_rfl) (by kernel_rfl) ?_; simp [-getElem?_pos, z0, z1, z2, hlt]) | (with_reducible refine And.intro (show okLog _ _ = true from by kernel_rfl) ?_))
        (first | refine RR.ret ?_ | refine RR.normal ?_); simp [hr']
    · have hr' : r = 15 := hr.trans (truthErr_15 h0 h1)
      refine acallK tabOk Try.func21 rfl rfl (show 2 ≤ _ by decide) rfl fun _ => ?_; simp only [Try.ntmps21]
      repeat (first | (with_reducible refine AWp.seqK fun _ => ?_) | (with_reducible refine AWp.blockK fun _ => ?_) | (with_reducible refine KK.go ?_) | (refine AWp.reg tabOk ?_; simp [-getElem?_pos, z0, z1, z2, ]) | (refine AWp.condK fun _ _ => ?_; simp [-getElem?_pos, z0, z1, z2, ]) | (refine AWp.ret ?_; try simp only [thenP]) | (refine AWp.skip ?_; try simp only [thenP]) | (refine AWp.exit ?_; try simp only [thenP]) | (with_reducible refine AWp.scopeK fun _ => ?_) | (refine AWp.label ?_; try simp only [thenP]) | (with_reducible refine SS.go (fun _ h => by cases h) ?_; try simp only [blockP, thenP]) | (with_reducible refine BB.go ?_; simp only [blockP, thenP, if_true, if_false, reduceIte]) | (refine AWp.draws tabOk (by kernel_rfl) (by kernel_rfl) ?_; simp [-getElem?_pos, z0, z1, z2, ]) | (with_reducible refine And.intro (show okLog _ _ = true from by kernel_rfl) ?_))
      (first | refine Exec0.call [] cb ?_ rfl ?_ ?_ | refine Exec.call [] cb ?_ rfl ?_ ?_); (focus simp [-getElem?_pos, ]); (focus simp [-getElem?_pos, z0, z1, z2, ]); simp [-getElem?_pos, z0, z1, z2, ]
      repeat (first | (with_reducible refine AWp.seqK fun _ => ?_) | (with_reducible refine AWp.blockK fun _ => ?_) | (with_reducible refine KK.go ?_) | (refine AWp.reg tabOk ?_; simp [-getElem?_pos, z0, z1, z2, h1]) | (refine AWp.condK fun _ _ => ?_; simp [-getElem?_pos, z0, z1, z2, h1]) | (refine AWp.ret ?_; try simp only [thenP]) | (refine AWp.skip ?_; try simp only [thenP]) | (refine AWp.exit ?_; try simp only [thenP]) | (with_reducible refine AWp.scopeK fun _ => ?_) | (refine AWp.label ?_; try simp only [thenP]) | (with_reducible refine SS.go (fun _ h => by cases h) ?_; try simp only [blockP, thenP]) | (with_reducible refine BB.go ?_; simp only [blockP, thenP, if_true, if_false, reduceIte]) | (refine AWp.draws tabOk (by kernel_rfl) (by kernel_rfl) ?_; simp [-getElem?_pos, z0, z1, z2, h1]) | (with_reducible refine And.intro (show okLog _ _ = true from by kernel_rfl) ?_))
      (first | refine RR.ret ?_ | refine RR.normal ?_); simp [hr']
  · have hr' : r = bookErr b := hr.trans (truthErr_b h0)
    rw [hr']
    generalize bookErr b = e at *
    refine acallK tabOk Try.func21 rfl rfl (show 2 ≤ _ by decide) rfl fun _ => ?_; simp only [Try.ntmps21]
    repeat (first | (with_reducible refine AWp.seqK fun _ => ?_) | (with_reducible refine AWp.blockK fun _ => ?_) | (with_reducible refine KK.go ?_) | (refine AWp.reg tabOk ?_; simp [-getElem?_pos, z0, z1, z2, ]) | (refine AWp.condK fun _ _ => ?_; simp [-getElem?_pos, z0, z1, z2, ]) | (refine AWp.ret ?_; try simp only [thenP]) | (refine AWp.skip ?_; try simp only [thenP]) | (refine AWp.exit ?_; try simp only [thenP]) | (with_reducible refine AWp.scopeK fun _ => ?_) | (refine AWp.label ?_; try simp only [thenP]) | (with_reducible refine SS.go (fun _ h => by cases h) ?_; try simp only [blockP, thenP]) | (with_reducible refine BB.go ?_; simp only [blockP, thenP, if_true, if_false, reduceIte]) | (refine AWp.draws tabOk (by kernel_rfl) (by kernel_rfl) ?_; simp [-getElem?_pos, z0, z1, z2, ]) | (with_reducible refine And.intro (show okLog _ _ = true from by kernel_rfl) ?_))
    (first | refine Exec0.call [] cb ?_ rfl ?_ ?_ | refine Exec.call [] cb ?_ rfl ?_ ?_); (focus simp [-getElem?_pos, h0]); (focus simp [-getElem?_pos, z0, z1, z2, h0]); simp [-getElem?_pos, z0, z1, z2, h0]
    repeat (first | (with_reducible refine AWp.seqK fun _ => ?_) | (with_reducible refine AWp.blockK fun _ => ?_) | (with_reducible refine KK.go ?_) | (refine AWp.reg tabOk ?_; simp [-getElem?_pos, z0, z1, z2, h0]) | (refine AWp.condK fun _ _ => ?_; simp [-getElem?_pos, z0, z1, z2, h0]) | (refine AWp.ret ?_; try simp only [thenP]) | (refine AWp.skip ?_; try simp only [thenP]) | (refine AWp.exit ?_; try simp only [thenP]) | (with_reducible refine AWp.scopeK fun _ => ?_) | (refine AWp.label ?_; try simp only [thenP]) | (with_reducible refine SS.go (fun _ h => by cases h) ?_; try simp only [blockP, thenP]) | (with_reducible refine BB.go ?_; simp only [blockP, thenP, if_true, if_false, reduceIte]) | (refine AWp.draws tabOk (by kernel_rfl) (by kernel_rfl) ?_; simp [-getElem?_pos, z0, z1, z2, h0]) | (with_reducible refine And.intro (show okLog _ _ = true from by kernel_rfl) ?_))
    (first | refine Exec0.call [] cb ?_ rfl ?_ ?_ | refine Exec.call [] cb ?_ rfl ?_ ?_); (focus simp [-getElem?_pos, ]); (focus simp [-getElem?_pos, z0, z1, z2, ]); simp [-getElem?_pos, z0, z1, z2, ]
    repeat (first | (with_reducible refine AWp.seqK fun _ => ?_) | (with_reducible refine AWp.blockK fun _ => ?_) | (with_reducible refine KK.go ?_) | (refine AWp.reg tabOk ?_; simp [-getElem?_pos, z0, z1, z2, ]) | (refine AWp.condK fun _ _ => ?_; simp [-getElem?_pos, z0, z1, z2, ]) | (refine AWp.ret ?_; try simp only [thenP]) | (refine AWp.skip ?_; try simp only [thenP]) | (refine AWp.exit ?_; try simp only [thenP]) | (with_reducible refine AWp.scopeK fun _ => ?_) | (refine AWp.label ?_; try simp only [thenP]) | (with_reducible refine SS.go (fun _ h => by cases h) ?_; try simp only [blockP, thenP]) | (with_reducible refine BB.go ?_; simp only [blockP, thenP, if_true, if_false, reduceIte]) | (refine AWp.draws tabOk (by kernel_rfl) (by kernel_rfl) ?_; simp [-getElem?_pos, z0, z1, z2, ]) | (with_reducible refine And.intro (show okLog _ _ = true from by kernel_rfl) ?_))
    (first | refine RR.ret ?_ | refine RR.normal ?_); simp []
set_option maxRecDepth 100000 in
set_option maxHeartbeats 4000000 in
theorem checkTruth_c (b : Book) (l : List Int) : ACall Try.prog 20 [bookD b, intL l] (iD (truthErr b l)) := by
  obtain ⟨r, hr⟩ : ∃ r, r = truthErr b l := ⟨_, rfl⟩
  rw [← hr]
  have cb := checkBook_c b
  by_cases h0 : bookErr b = 0
  · have ok := bookOk h0
    have he2 := ok.e2
    have hn := ok.n
    rw [h0] at cb
    by_cases h1 : (l.length : Int) = b.edges
    · have cf := areFromJ_c 0 1000 l (by omega)
      rcases hall : fromK 0 1000 l <;> rw [hall] at cf
      · have hr' : r = 3 := hr.trans (truthErr_3 h0 h1 hall)
        refine acallK tabOk Try.func20 rfl rfl (show 2 ≤ _ by decide) rfl fun _ => ?_; simp only [Try.ntmps20]
        repeat (first | (with_reducible refine AWp.seqK fun _ => ?_) | (with_reducible refine AWp.blockK fun _ => ?_) | (with_reducible refine KK.go ?_) | (refine AWp.reg tabOk ?_; simp [-getElem?_pos, z0, z1, z2, ]) | (refine AWp.condK fun _ _ => ?_; simp [-getElem?_pos, z0, z1, z2, ]) | (refine AWp.ret ?_; try simp only [thenP]) | (refine AWp.skip ?_; try simp only [thenP]) | (refine AWp.exit ?_; try simp only [thenP]) | (with_reducible refine AWp.scopeK fun _ => ?_) | (refine AWp.label ?_; try simp only [thenP]) | (with_reducible refine SS.go (fun _ h => by cases h) ?_; try simp only [blockP, thenP]) | (with_reducible refine BB.go ?_; simp only [blockP, thenP, if_true, if_false, reduceIte]) | (refine AWp.draws tabOk (by kernel_rfl) (by kernel_rfl) ?_; simp [-getElem?_pos, z0, z1, z2, ]) | (with_reducible refine And.intro (show okLog _ _ = true from by kernel_rfl) ?_))
        (first | refine Exec0.call [] cb ?_ rfl ?_ ?_ | refine Exec.call [] cb ?_ rfl ?_ ?_); (focus simp [-getElem?_pos, ]); (focus simp [-getElem?_pos, z0, z1, z2, ]); simp [-getElem?_pos, z0, z1, z2, ]
        repeat (first | (with_reducible refine AWp.seqK fun _ => ?_) | (with_reducible refine AWp.blockK fun _ => ?_) | (with_reducible refine KK.go ?_) | (refine AWp.reg tabOk ?_; simp [-getElem?_pos, z0, z1, z2, h1]) | (refine AWp.condK fun _ _ => ?_; simp [-getElem?_pos, z0, z1, z2, h1]) | (refine AWp.ret ?_; try simp only [thenP]) | (refine AWp.skip ?_; try simp only [thenP]) | (refine AWp.exit ?_; try simp only [thenP]) | (with_reducible refine AWp.scopeK fun _ => ?_) | (refine AWp.label ?_; try simp only [thenP]) | (with_reducible refine SS.go (fun _ h => by cases h) ?_; try simp only [blockP, thenP]) | (with_reducible refine BB.go ?_; simp only [blockP, thenP, if_true, if_false, reduceIte]) | (refine AWp.draws tabOk (by kernel_rfl) (by kernel_rfl) ?_; simp [-getElem?_pos, z0, z1, z2, h1]) | (with_reducible refine And.intro (show okLog _ _ = true from by kernel_rfl) ?_))
        (first | refine Exec0.call [] cf ?_ rfl ?_ ?_ | refine Exec.call [] cf ?_ rfl ?_ ?_); (focus simp [-getElem?_pos, ]); (focus simp [-getElem?_pos, z0, z1, z2, ]); simp [-getElem?_pos, z0, z1, z2, ]
        repeat (first | (with_reducible refine AWp.seqK fun _ => ?_) | (with_reducible refine AWp.blockK fun _ => ?_) | (with_reducible refine KK.go ?_) | (refine AWp.reg tabOk ?_; simp [-getElem?_pos, z0, z1, z2, ]) | (refine AWp.condK fun _ _ => ?_; simp [-getElem?_pos, z0, z1, z2, ]) | (refine AWp.ret ?_; try simp only [thenP]) | (refine AWp.skip ?_; try simp only [thenP]) | (refine AWp.exit ?_; try simp only [thenP]) | (with_reducible refine AWp.scopeK fun _ => ?_) | (refine AWp.label ?_; try simp only [thenP]) | (with_reducible refine SS.go (fun _ h => by cases h) ?_; try simp only [blockP, thenP]) | (with_reducible refine BB.go ?_; simp only [blockP, thenP, if_true, if_false, reduceIte]) | (refine AWp.draws tabOk (by kernel_rfl) (by kernel_rfl) ?_; simp [-getElem?_pos, z0, z1, z2, ]) | (with_reducible refine And.intro (show okLog _ _ = true from by kernel_rfl) ?_))
        (first | refine RR.ret ?_ | refine RR.normal ?_); simp [hr']
      refine acallK tabOk Try.func20 rfl rfl (show 2 ≤ _ by decide) rfl fun _ => ?_; simp only [Try.ntmps20]
      repeat (first | (with_reducible refine AWp.seqK fun _ => ?_) | (with_reducible refine AWp.blockK fun _ => ?_) | (with_reducible refine KK.go ?_) | (refine AWp.reg tabOk ?_; simp [-getElem?_pos, z0, z1, z2, ]) | (refine AWp.condK fun _ _ => ?_; simp [-getElem?_pos, z0, z1, z2, ]) | (refine AWp.ret ?_; try simp only [thenP]) | (refine AWp.skip ?_; try simp only [thenP]) | (refine AWp.exit ?_; try simp only [thenP]) | (with_reducible refine AWp.scopeK fun _ => ?_) | (refine AWp.label ?_; try simp only [thenP]) | (with_reducible refine SS.go (fun _ h => by cases h) ?_; try simp only [blockP, thenP]) | (with_reducible refine BB.go ?_; simp only [blockP, thenP, if_true, if_false, reduceIte]) | (refine AWp.draws tabOk (by kernel_rfl) (by kernel_rfl) ?_; simp [-getElem?_pos, z0, z1, z2, ]) | (with_reducible refine And.intro (show okLog _ _ = true from by kernel_rfl) ?_))
      (first | refine Exec0.call [] cb ?_ rfl ?_ ?_ | refine Exec.call [] cb ?_ rfl ?_ ?_); (focus simp [-getElem?_pos, ]); (focus simp [-getElem?_pos, z0, z1, z2, ]); simp [-getElem?_pos, z0, z1, z2, ]
      repeat (first | (with_reducible refine AWp.seqK fun _ => ?_) | (with_reducible refine AWp.blockK fun _ => ?_) | (with_reducible refine KK.go ?_) | (refine AWp.reg tabOk ?_; simp [-getElem?_pos, z0, z1, z2, h1]) | (refine AWp.condK fun _ _ => ?_; simp [-getElem?_pos, z0, z1, z2, h1]) | (refine AWp.ret ?_; try simp only [thenP]) | (refine AWp.skip ?_; try simp only [thenP]) | (refine AWp.exit ?_; try simp only [thenP]) | (with_reducible refine AWp.scopeK fun _ => ?_) | (refine AWp.label ?_; try simp only [thenP]) | (with_reducible refine SS.go (fun _ h => by cases h) ?_; try simp only [blockP, thenP]) | (with_reducible refine BB.go ?_; simp only [blockP, thenP, if_true, if_false, reduceIte]) | (refine AWp.draws tabOk (by kernel_rfl) (by kernel_rfl) ?_; simp [-getElem?_pos, z0, z1, z2, h1]) | (with_reducible refine And.intro (show okLog _ _ = true from by kernel_rfl) ?_))
      (first | refine Exec0.call [] cf ?_ rfl ?_ ?_ | refine Exec.call [] cf ?_ rfl ?_ ?_); (focus simp [-getElem?_pos, ]); (focus simp [-getElem?_pos, z0, z1, z2, ]); simp [-getElem?_pos, z0, z1, z2, ]
      repeat (first | (with_reducible refine AWp.seqK fun _ => ?_) | (with_reducible refine AWp.blockK fun _ => ?_) | (with_reducible refine KK.go ?_) | (refine AWp.reg tabOk ?_; simp [-getElem?_pos, z0, z1, z2, ]) | (refine AWp.condK fun _ _ => ?_; simp [-getElem?_pos, z0, z1, z2, ]) | (refine AWp.ret ?_; try simp only [thenP]) | (refine AWp.skip ?_; try simp only [thenP]) | (refine AWp.exit ?_; try simp only [thenP]) | (with_reducible refine AWp.scopeK fun _ => ?_) | (refine AWp.label ?_; try simp only [thenP]) | (with_reducible refine SS.go (fun _ h => by cases h) ?_; try simp only [blockP, thenP]) | (with_reducible refine BB.go ?_; simp only [blockP, thenP, if_true, if_false, reduceIte]) | (refine AWp.draws tabOk (by kernel_rfl) (by kernel_rfl) ?_; simp [-getElem?_pos, z0, z1, z2, ]) | (with_reducible refine And.intro (show okLog _ _ = true from by kernel_rfl) ?_))
      refine AWp.loopK (ι := { k : Nat // k ≤ b.ts.length ∧ (b.ts.take k).all (fitK l) = true }) (n := 1) (fun k => [(1, .d (intL l)), (2, .ptr 0 0 0), (22, .d (.list (ktRows b.ts))), (23, .d (iD b.ts.length)), (24, .d (iD k.1))]) (fun _ => [(0, .box 24 [.d (iD b.edges), .d (.list (ktRows b.ts))] false)]) (fun k => b.ts.length - k.1) ⟨0, Nat.zero_le _, by simp⟩ [0] ?_ ?_
      · refine ⟨by rfl, by simp [], by simp [or_imp, forall_and, ] <;> (try (intro _hne; simp [_hne])), by decide⟩
      rintro ⟨k, hk, hall3⟩ kk
      have w1 : IntKind.i64.wrap ((k : Int) + 1) = (k : Int) + 1 := wrap64_in (by omega)
      by_cases hlt : k < b.ts.length
      · obtain ⟨⟨one, two, lo, hi⟩, ht⟩ : ∃ t, b.ts[k]? = some t := ⟨_, List.getElem?_eq_getElem hlt⟩
        have ha := ok.arg _ (List.mem_of_getElem? ht)
        simp only at ha
        obtain ⟨i, rfl⟩ := Int.eq_ofNat_of_zero_le ha.1.1
        obtain ⟨j, rfl⟩ := Int.eq_ofNat_of_zero_le ha.2.1.1
        have hi1 : i < l.length := by omega
        have hj1 : j < l.length := by omega
        obtain ⟨x, hx⟩ : ∃ x, l[i]? = some x := ⟨_, List.getElem?_eq_getElem hi1⟩
        obtain ⟨y, hy⟩ : ∃ y, l[j]? = some y := ⟨_, List.getElem?_eq_getElem hj1⟩
        have bx := fromK_mem hall hx
        have by' := fromK_mem hall hy
        have wd : IntKind.i64.wrap (x - y) = x - y := wrap64_in (by omega)
        have hfit : fitK l ⟨i, j, lo, hi⟩ = fromK lo hi [x - y] := by rw [fitK, atK_get hx, atK_get hy]; simp [fromK]
        have ci : ACall Try.prog 57 [iD lo, iD hi, .list [[iD (x - y)]]] (bD (fitK l ⟨i, j, lo, hi⟩)) := by rw [hfit]; exact areFromJ_c lo hi [x - y] (by simp)
        rcases g : fitK l ⟨i, j, lo, hi⟩ <;> rw [g] at ci
        · have hr' : r = 16 := hr.trans (truthErr_16 h0 h1 hall (allK_not ht g))
          repeat (first | (with_reducible refine AWp.seqK fun _ => ?_) | (with_reducible refine AWp.blockK fun _ => ?_) | (with_reducible refine KK.go ?_) | (refine AWp.reg tabOk ?_; simp [-getElem?_pos, z0, z1, z2, hlt, ht, hx, hy, wd]) | (refine AWp.condK fun _ _ => ?_; simp [-getElem?_pos, z0, z1, z2, hlt, ht, hx, hy, wd]) | (refine AWp.ret ?_; try simp only [thenP]) | (refine AWp.skip ?_; try simp only [thenP]) | (refine AWp.exit ?_; try simp only [thenP]) | (with_reducible refine AWp.scopeK fun _ => ?_) | (refine AWp.label ?_; try simp only [thenP]) | (with_reducible refine SS.go (fun _ h => by cases h) ?_; try simp only [blockP, thenP]) | (with_reducible refine BB.go ?_; simp only [blockP, thenP, if_true, if_false, reduceIte]) | (refine AWp.draws tabOk (by kernel_rfl) (by kernel_rfl) ?_; simp [-getElem?_pos, z0, z1, z2, hlt, ht, hx, hy, wd]) | (with_reducible refine And.intro (show okLog _ _ = true from by kernel_rfl) ?_))
          (first | refine Exec0.call [23] ci ?_ rfl ?_ ?_ | refine Exec.call [23] ci ?_ rfl ?_ ?_); (focus simp [-getElem?_pos, hx, hy, wd]); (focus simp [-getElem?_pos, z0, z1, z2, hx, hy, wd]); simp [-getElem?_pos, z0, z1, z2, hx, hy, wd]
          repeat (first | (with_reducible refine AWp.seqK fun _ => ?_) | (with_reducible refine AWp.blockK fun _ => ?_) | (with_reducible refine KK.go ?_) | (refine AWp.reg tabOk ?_; simp [-getElem?_pos, z0, z1, z2, ]) | (refine AWp.condK fun _ _ => ?_; simp [-getElem?_pos, z0, z1, z2, ]) | (refine AWp.ret ?_; try simp only [thenP]) | (refine AWp.skip ?_; try simp only [thenP]) | (refine AWp.exit ?_; try simp only [thenP]) | (with_reducible refine AWp.scopeK fun _ => ?_) | (refine AWp.label ?_; try simp only [thenP]) | (with_reducible refine SS.go (fun _ h => by cases h) ?_; try simp only [blockP, thenP]) | (with_reducible refine BB.go ?_; simp only [blockP, thenP, if_true, if_false, reduceIte]) | (refine AWp.draws tabOk (by kernel_rfl) (by kernel_rfl) ?_; simp [-getElem?_pos, z0, z1, z2, ]) | (with_reducible refine And.intro (show okLog _ _ = true from by kernel_rfl) ?_))
          (first | refine RR.ret ?_ | refine RR.normal ?_); simp [hr']
        · have hall4 : (b.ts.take (k + 1)).all (fitK l) = true := by rw [allK_take ht, hall3, g]; rfl
          repeat (first | (with_reducible refine AWp.seqK fun _ => ?_) | (with_reducible refine AWp.blockK fun _ => ?_) | (with_reducible refine KK.go ?_) | (refine AWp.reg tabOk ?_; simp [-getElem?_pos, z0, z1, z2, hlt, ht, hx, hy, wd]) | (refine AWp.condK fun _ _ => ?_; simp [-getElem?_pos, z0, z1, z2, hlt, ht, hx, hy, wd]) | (refine AWp.ret ?_; try simp only [thenP]) | (refine AWp.skip ?_; try simp only [thenP]) | (refine AWp.exit ?_; try simp only [thenP]) | (with_reducible refine AWp.scopeK fun _ => ?_) | (refine AWp.label ?_; try simp only [thenP]) | (with_reducible refine SS.go (fun _ h => by cases h) ?_; try simp only [blockP, thenP]) | (with_reducible refine BB.go ?_; simp only [blockP, thenP, if_true, if_false, reduceIte]) | (refine AWp.draws tabOk (by kernel_rfl) (by kernel_rfl) ?_; simp [-getElem?_pos, z0, z1, z2, hlt, ht, hx, hy, wd]) | (with_reducible refine And.intro (show okLog _ _ = true from by kernel_rfl) ?_))
          (first | refine Exec0.call [23] ci ?_ rfl ?_ ?_ | refine Exec.call [23] ci ?_ rfl ?_ ?_); (focus simp [-getElem?_pos, hx, hy, wd]); (focus simp [-getElem?_pos, z0, z1, z2, hx, hy, wd]); simp [-getElem?_pos, z0, z1, z2, hx, hy, wd]
          repeat (first | (with_reducible refine AWp.seqK fun _ => ?_) | (with_reducible refine AWp.blockK fun _ => ?_) | (with_reducible refine KK.go ?_) | (refine AWp.reg tabOk ?_; simp [-getElem?_pos, z0, z1, z2, w1]) | (refine AWp.condK fun _ _ => ?_; simp [-getElem?_pos, z0, z1, z2, w1]) | (refine AWp.ret ?_; try simp only [thenP]) | (refine AWp.skip ?_; try simp only [thenP]) | (refine AWp.exit ?_; try simp only [thenP]) | (with_reducible refine AWp.scopeK fun _ => ?_) | (refine AWp.label ?_; try simp only [thenP]) | (with_reducible refine SS.go (fun _ h => by cases h) ?_; try simp only [blockP, thenP]) | (with_reducible refine BB.go ?_; simp only [blockP, thenP, if_true, if_false, reduceIte]) | (refine AWp.draws tabOk (by kernel_rfl) (by kernel_rfl) ?_; simp [-getElem?_pos, z0, z1, z2, w1]) | (with_reducible refine And.intro (show okLog _ _ = true from by kernel_rfl) ?_))
          refine LL.go ⟨k + 1, hlt, hall4⟩ [0] ⟨by rfl, by simp [], by simp [or_imp, forall_and, ] <;> (try (intro _hne; simp [_hne])), by decide⟩ ?_
          simp; omega
      · obtain rfl : k = b.ts.length := by omega
        rw [List.take_of_length_le (Nat.le_refl _)] at hall3
        have hr' : r = 0 := hr.trans (truthErr_0 h0 h1 hall hall3)
        repeat (first | (with_reducible refine AWp.seqK fun _ => ?_) | (with_reducible refine AWp.blockK fun _ => ?_) | (with_reducible refine KK.go ?_) | (refine AWp.reg tabOk ?_; simp [-getElem?_pos, z0, z1, z2, hlt]) | (refine AWp.condK fun _ _ => ?_; simp [-getElem?_pos, z0, z1, z2, hlt]) | (refine AWp.ret ?_; try simp only [thenP]) | (refine AWp.skip ?_; try simp only [thenP]) | (refine AWp.exit ?_; try simp only [thenP]) | (with_reducible refine AWp.scopeK fun _ => ?_) | (refine AWp.label ?_; try simp only [thenP]) | (with_reducible refine SS.go (fun _ h => by cases h) ?_; try simp only [blockP, thenP]) | (with_reducible refine BB.go ?_; simp only [blockP, thenP, if_true, if_false, reduceIte]) | (refine AWp.draws tabOk (by kernel_rfl) (by kernel_rfl) ?_; simp [-getElem?_pos, z0, z1, z2, hlt]) | (with_reducible refine And.intro (show okLog _ _ = true from by kernel_rfl) ?_))
        (first | refine RR.ret ?_ | refine RR.normal ?_); simp [hr']
    · have hr' : r = 15 := hr.trans (truthErr_15 h0 h1)
      refine acallK tabOk Try.func20 rfl rfl (show 2 ≤ _ by decide) rfl fun _ => ?_; simp only [Try.ntmps20]
      repeat (first | (with_reducible refine AWp.seqK fun _ => ?_) | (with_reducible refine AWp.blockK fun _ => ?_) | (with_reducible refine KK.go ?_) | (refine AWp.reg tabOk ?_; simp [-getElem?_pos, z0, z1, z2, ]) | (refine AWp.condK fun _ _ => ?_; simp [-getElem?_pos, z0, z1, z2, ]) | (refine AWp.ret ?_; try simp only [thenP]) | (refine AWp.skip ?_; try simp only [thenP]) | (refine AWp.exit ?_; try simp only [thenP]) | (with_reducible refine AWp.scopeK fun _ => ?_) | (refine AWp.label ?_; try simp only [thenP]) | (with_reducible refine SS.go (fun _ h => by cases h) ?_; try simp only [blockP, thenP]) | (with_reducible refine BB.go ?_; simp only [blockP, thenP, if_true, if_false, reduceIte]) | (refine AWp.draws tabOk (by kernel_rfl) (by kernel_rfl) ?_; simp [-getElem?_pos, z0, z1, z2, ]) | (with_reducible refine And.intro (show okLog _ _ = true from by kernel_rfl) ?_))
      (first | refine Exec0.call [] cb ?_ rfl ?_ ?_ | refine Exec.call [] cb ?_ rfl ?_ ?_); (focus simp [-getElem?_pos, ]); (focus simp [-getElem?_pos, z0, z1, z2, ]); simp [-getElem?_pos, z0, z1, z2, ]
      repeat (first | (with_reducible refine AWp.seqK fun _ => ?_) | (with_reducible refine AWp.blockK fun _ => ?_) | (with_reducible refine KK.go ?_) | (refine AWp.reg tabOk ?_; simp [-getElem?_pos, z0, z1, z2, h1]) | (refine AWp.condK fun _ _ => ?_; simp [-getElem?_pos, z0, z1, z2, h1]) | (refine AWp.ret ?_; try simp only [thenP]) | (refine AWp.skip ?_; try simp only [thenP]) | (refine AWp.exit ?_; try simp only [thenP]) | (with_reducible refine AWp.scopeK fun _ => ?_) | (refine AWp.label ?_; try simp only [thenP]) | (with_reducible refine SS.go (fun _ h => by cases h) ?_; try simp only [blockP, thenP]) | (with_reducible refine BB.go ?_; simp only [blockP, thenP, if_true, if_false, reduceIte]) | (refine AWp.draws tabOk (by kernel_rfl) (by kernel_rfl) ?_; simp [-getElem?_pos, z0, z1, z2, h1]) | (with_reducible refine And.intro (show okLog _ _ = true from by kernel_rfl) ?_))
      (first | refine RR.ret ?_ | refine RR.normal ?_); simp [hr']
  · have hr' : r = bookErr b := hr.trans (truthErr_b h0)
    rw [hr']
    generalize bookErr b = e at *
    refine acallK tabOk Try.func20 rfl rfl (show 2 ≤ _ by decide) rfl fun _ => ?_; simp only [Try.ntmps20]
    repeat (first | (with_reducible refine AWp.seqK fun _ => ?_) | (with_reducible refine AWp.blockK fun _ => ?_) | (with_reducible refine KK.go ?_) | (refine AWp.reg tabOk ?_; simp [-getElem?_pos, z0, z1, z2, ]) | (refine AWp.condK fun _ _ => ?_; simp [-getElem?_pos, z0, z1, z2, ]) | (refine AWp.ret ?_; try simp only [thenP]) | (refine AWp.skip ?_; try simp only [thenP]) | (refine AWp.exit ?_; try simp only [thenP]) | (with_reducible refine AWp.scopeK fun _ => ?_) | (refine AWp.label ?_; try simp only [thenP]) | (with_reducible refine SS.go (fun _ h => by cases h) ?_; try simp only [blockP, thenP]) | (with_reducible refine BB.go ?_; simp only [blockP, thenP, if_true, if_false, reduceIte]) | (refine AWp.draws tabOk (by kernel_rfl) (by kernel_rfl) ?_; simp [-getElem?_pos, z0, z1, z2, ]) | (with_reducible refine And.intro (show okLog _ _ = true from by kernel_rfl) ?_))
    (first | refine Exec0.call [] cb ?_ rfl ?_ ?_ | refine Exec.call [] cb ?_ rfl ?_ ?_); (focus simp [-getElem?_pos, h0]); (focus simp [-getElem?_pos, z0, z1, z2, h0]); simp [-getElem?_pos, z0, z1, z2, h0]
    repeat (first | (with_reducible refine AWp.seqK fun _ => ?_) | (with_reducible refine AWp.blockK fun _ => ?_) | (with_reducible refine KK.go ?_) | (refine AWp.reg tabOk ?_; simp [-getElem?_pos, z0, z1, z2, h0]) | (refine AWp.condK fun _ _ => ?_; simp [-getElem?_pos, z0, z1, z2, h0]) | (refine AWp.ret ?_; try simp only [thenP]) | (refine AWp.skip ?_; try simp only [thenP]) | (refine AWp.exit ?_; try simp only [thenP]) | (with_reducible refine AWp.scopeK fun _ => ?_) | (refine AWp.label ?_; try simp only [thenP]) | (with_reducible refine SS.go (fun _ h => by cases h) ?_; try simp only [blockP, thenP]) | (with_reducible refine BB.go ?_; simp only [blockP, thenP, if_true, if_false, reduceIte]) | (refine AWp.draws tabOk (by kernel_rfl) (by kernel_rfl) ?_; simp [-getElem?_pos, z0, z1, z2, h0]) | (with_reducible refine And.intro (show okLog _ _ = true from by kernel_rfl) ?_))
    (first | refine RR.ret ?_ | refine RR.normal ?_); simp []
end Go.Proofs.Ytielmlnmjiooiaa.Eng

/-
  The last step of a law's row, from 'what was there is as it was' alone.
-/
namespace Go.Proofs.Ytielmlnmjiooiaa
open Go.ChangeShapes Go.WideShapes Go.ChangeAt Go.RowKit

/-- A law that takes no package variable: it answers, what was there is as it was, and the arguments read as they did. -/
theorem post_later {H : Type} {enc : TypeId × Value → H} {P : Program} {f : Func} {s : ChangeSpec} {apart fresh handsOn again : Bool} {W W' : World} {args : Array Value} {v : Value} {ds gs : List (DataW H)} {before pa pv : List MemPlace}
    (hW : DataW.Whole enc P f.params.toList s.vars apart W args.toList ds gs before) (hsplit : before = pa ++ pv)
    (hr : ∀ (b : Nat) (sp : Nat → Bool) (hd : Bool), DataW.TrodAll enc P W' b sp hd f.resultTypes.toList (v.resultList f.resultTypes.size) (s.fn H (ds ++ gs)).results [])
    (ha : ∀ sp : Nat → Bool, (∀ p ∈ before, sp p.block = true) → DataW.TrodAll enc P W' 0 sp true f.params.toList args.toList (s.fn H (ds ++ gs)).args pa)
    (hv : ∀ sp : Nat → Bool, (∀ p ∈ before, sp p.block = true) → DataW.TrodVars enc P W' sp s.vars (s.fn H (ds ++ gs)).vars pv)
    (hk : ∀ (j : Nat) (t : TypeId) (r : Value), f.resultTypes[j]? = some t → (v.resultList f.resultTypes.size)[j]? = some r → Value.okWide P W' .any 0 t r)
    (hb : Below W.heap.size W W') : s.post enc P f apart fresh handsOn again W args v W' := by
  have inside : ∀ p, p ∈ before → p.block < W.heap.size := fun p hp => hW.lt p hp
  have keep : ∀ p ∈ before, (decide ((p : MemPlace).block < W.heap.size)) = true := fun p hp => decide_eq_true (inside p hp)
  refine ⟨ds, gs, before, [], pa, pv, hW, hr _ _ _, ha (fun b => decide (b < W.heap.size)) keep, hv (fun b => decide (b < W.heap.size)) keep, ?_, ?_⟩
  · refine World.keptBut_mono (fun p hp => ⟨hp, ?_⟩) (hb.frame (· ∈ before))
    right
    rw [hsplit, List.mem_append] at hp
    exact hp
  · intro _
    obtain ⟨_, _, _, _, _, hz, hn⟩ := hW
    have e : [] ++ pa ++ pv = before := by rw [hsplit, List.nil_append]
    refine ⟨hk, _, _, [] ++ pa ++ pv, ⟨[] ++ pa, pv, trodAll_append (ha _ fun _ _ => rfl) (hr _ _ _), hv _ fun _ _ => rfl, rfl, fun b off hp => ?_, fun h => ?_⟩, fun p hp _ => ?_⟩
    · rw [e] at hp
      rw [hb.frozen (inside _ hp)]
      exact hz b off hp
    · have := hn h
      rw [← e] at this
      simpa using this
    · rw [e] at hp
      simpa using hp
end Go.Proofs.Ytielmlnmjiooiaa

/-
  What came in, as data: types described, and each value that came in as a datum of its type. No program is named here.
-/
namespace Go.Proofs.Ytielmlnmjiooiaa.Eng
open Go.ChangeShapes Go.WideShapes Go.ChangeAt Go.RowKit Go.Deep

/-- Types: a struct is its fields, one behind the other. -/
inductive Sh where
  | int (k : IntKind)
  | bool
  | nil
  | cons (s r : Sh)
  | sl (s : Sh)
  | arr (n : Nat) (s : Sh)
def Sh.size : Sh → Nat
  | .int _ => 1
  | .bool => 1
  | .nil => 0
  | .cons s r => s.size + r.size
  | .sl _ => 1
  | .arr n s => n * s.size
/-- The cells of a value of a type. -/
def Sh.Row : Sh → List Dat → Prop
  | .int k, r => ∃ n, r = [.val (.int k n)] ∧ (Lit.int k n).wf = true
  | .bool, r => ∃ b, r = [.val (.bool b)]
  | .nil, r => r = []
  | .cons s t, r => ∃ a b, r = a ++ b ∧ s.Row a ∧ t.Row b
  | .sl s, r => ∃ rows : List (List Dat), r = [.list rows] ∧ ∀ x ∈ rows, s.Row x
  | .arr n s, r => ∃ rows : List (List Dat), rows.length = n ∧ r = rows.flatten ∧ ∀ x ∈ rows, s.Row x
theorem Sh.Row.len : ∀ {s : Sh} {r : List Dat}, s.Row r → r.length = s.size
  | .int k, _, ⟨n, h, _⟩ => by rw [h]; rfl
  | .bool, _, ⟨b, h⟩ => by rw [h]; rfl
  | .nil, _, h => by rw [show _ = [] from h]; rfl
  | .cons s t, _, ⟨a, b, h, ha, hb⟩ => by rw [h, List.length_append, Sh.Row.len ha, Sh.Row.len hb]; rfl
  | .sl s, _, ⟨rows, h, _⟩ => by rw [h]; rfl
  | .arr n s, _, ⟨rows, h1, h2, h3⟩ => by
    rw [h2, List.length_flatten]
    have : ∀ l : List (List Dat), (∀ x ∈ l, s.Row x) → (l.map List.length).sum = l.length * s.size := by
      intro l
      induction l with
      | nil => intro _; simp
      | cons x l ih =>
        intro h
        rw [List.map_cons, List.sum_cons, ih fun y hy => h y (List.mem_cons_of_mem _ hy), Sh.Row.len (h x List.mem_cons_self), List.length_cons, Nat.add_mul, Nat.one_mul, Nat.add_comm]
    rw [this rows h3, h1]
    rfl
theorem Sh.Row.one : ∀ {s : Sh} {r : List Dat}, s.Row r → ∀ c ∈ r, c.one = true
  | .int k, _, ⟨n, h, _⟩, c, hc => by subst h; simp at hc; subst hc; rfl
  | .bool, _, ⟨b, h⟩, c, hc => by subst h; simp at hc; subst hc; rfl
  | .nil, _, h, c, hc => by rw [show _ = [] from h] at hc; simp at hc
  | .cons s t, _, ⟨a, b, h, ha, hb⟩, c, hc => by
    subst h
    rcases List.mem_append.1 hc with hc | hc
    · exact Sh.Row.one ha c hc
    · exact Sh.Row.one hb c hc
  | .sl s, _, ⟨rows, h, _⟩, c, hc => by subst h; simp at hc; subst hc; rfl
  | .arr n s, _, ⟨rows, h1, h2, h3⟩, c, hc => by
    subst h2
    obtain ⟨x, hx, hcx⟩ := List.mem_flatten.1 hc
    exact Sh.Row.one (h3 x hx) c hcx
/-- A type of the program is as described. -/
def Sh.flds (P : Program) (ok : Sh → TypeId → Bool) : Sh → List Field → Nat → Bool
  | .nil, [], _ => true
  | .cons s r, f :: fs, o => f.offset == o && P.cellsOf f.type == s.size && ok s f.type && r.flds P ok fs (o + s.size)
  | _, _, _ => false
def Sh.okF (P : Program) : Nat → Sh → TypeId → Bool
  | 0, _, _ => false
  | n + 1, s, t => match P.underlying t with
    | some (.int k) => match s with
      | .int k' => decide (k' = k)
      | _ => false
    | some .bool => match s with
      | .bool => true
      | _ => false
    | some (.struct fs) => P.cellsOf t == s.size && s.flds P (Sh.okF P n) fs.toList 0
    | some (.slice e) => match s with
      | .sl s' => Nat.ble 1 s'.size && P.cellsOf e == s'.size && Sh.okF P n s' e
      | _ => false
    | some (.array m e) => match s with
      | .arr m' s' => m == m' && P.cellsOf e == s'.size && P.cellsOf t == m * s'.size && Sh.okF P n s' e
      | _ => false
    | _ => false
section
variable {H : Type} {enc : TypeId × Value → H} {P : Program} {w : World}
/-- Cells that are of this type. -/
def Read (w : World) (s : Sh) (cs : List Value) : Prop := cs.length = s.size ∧ ∃ r, s.Row r ∧ ∀ (j : Nat) c u, r[j]? = some c → cs[j]? = some u → RepD (· < w.heap.size) w c u
def Opens (enc : TypeId × Value → H) (P : Program) (w : World) (s : Sh) (t : TypeId) : Prop := ∀ fuel cs x, DataW.trod enc P w 0 (fun _ => true) true fuel t cs = some x → Read w s cs
theorem read_list {α : Type} {R : Nat → α → Prop} : ∀ (n : Nat), (∀ i, i < n → ∃ x, R i x) → ∃ l : List α, l.length = n ∧ ∀ i x, l[i]? = some x → R i x
  | 0, _ => ⟨[], rfl, fun i x h => by simp at h⟩
  | n + 1, h => by
    obtain ⟨l, hl, hx⟩ := read_list n fun i hi => h i (by omega)
    obtain ⟨y, hy⟩ := h n (by omega)
    refine ⟨l ++ [y], by simp [hl], fun i x hi => ?_⟩
    rcases Nat.lt_or_ge i n with h1 | h1
    · rw [List.getElem?_append_left (by omega)] at hi
      exact hx i x hi
    · rw [List.getElem?_append_right (by omega)] at hi
      have : i = n := by
        have := (List.getElem?_eq_some_iff.1 hi).1
        simp at this
        omega
      subst this
      simp [hl] at hi
      subst hi
      exact hy
theorem opens_slice {s : Sh} {t e : TypeId} (ht : P.underlying t = some (.slice e)) (h0 : 0 < s.size) (hc : P.cellsOf e = s.size) (he : Opens enc P w s e) : Opens enc P w (.sl s) t := by
  intro fuel cs x h
  rcases open_slice ht h with ⟨h1, _⟩ | ⟨a, len, cap, m, n, D, Pl, hcs, hb, hl, hmx, hm, hx, hel⟩
  · subst h1
    refine ⟨rfl, [.list []], ⟨[], rfl, by simp⟩, fun j c u hj hu => ?_⟩
    match j with
    | 0 =>
      simp at hj hu
      subst hj; subst hu
      exact .list [] none 0 (fun _ _ => default) (by simp) (by decide) (by simp) (by simp) (by simp)
    | j + 1 => simp at hj
  · have hmc : m = cap := by simpa using hm
    obtain ⟨b, off, spot⟩ := a
    have cell : ∀ i, i < m → ∃ cs', cs'.length = s.size ∧ (∀ j u, cs'[j]? = some u → w.cell? (Addr.add ⟨b, off, spot⟩ (i * s.size + j)) = some u) ∧ Read w s cs' := by
      intro i hi
      obtain ⟨cs', h1, h2⟩ := hel i hi
      rw [hc] at h1
      obtain ⟨_, hlen, hat⟩ := World.cells?_some h1
      refine ⟨cs', hlen, fun j u hj => ?_, he _ _ _ h2⟩
      have hjl : j < s.size := by rw [← hlen]; exact (List.getElem?_eq_some_iff.1 hj).1
      rw [← Go.Deep.add_add, hat j hjl, hj]
    subst hcs
    refine ⟨rfl, ?_⟩
    rcases Nat.eq_zero_or_pos len with hm0 | hm0
    · subst hm0
      refine ⟨[.list []], ⟨[], rfl, by simp⟩, fun j c u hj hu => ?_⟩
      match j with
      | 0 =>
        simp at hj hu
        subst hj; subst hu
        exact .list [] _ cap (fun _ _ => default) (by simp) hmx (by simp) (by simp) (by simp)
      | j + 1 => simp at hj
    · have hsp : spot = none := by
        obtain ⟨cs', h1, h2, _⟩ := cell 0 (by omega)
        have h3 : cs'[0]? = some (cs'[0]'(by omega)) := List.getElem?_eq_getElem (by omega)
        have := World.cell?_spot (h2 0 _ h3)
        simpa [Addr.add] using this
      subst hsp
      have hb2 : b < w.heap.size := by
        obtain ⟨cs', h1, h2, _⟩ := cell 0 (by omega)
        have h3 : cs'[0]? = some (cs'[0]'(by omega)) := List.getElem?_eq_getElem (by omega)
        have h4 := World.block_lt_of_cell? w _ (h2 0 _ h3)
        simpa [Addr.add] using h4
      obtain ⟨rows, hrl, hrx⟩ := read_list (R := fun i (r : List Dat) => s.Row r ∧ ∀ (j : Nat) c, r[j]? = some c → ∃ u, w.cell? ⟨b, off + i * s.size + j, none⟩ = some u ∧ RepD (· < w.heap.size) w c u) len fun i hi => by
        obtain ⟨cs', h1, h2, h3, r, h4, h5⟩ := cell i (by omega)
        refine ⟨r, h4, fun j c hj => ?_⟩
        have hjl : j < s.size := by rw [← h4.len]; exact (List.getElem?_eq_some_iff.1 hj).1
        have hu : cs'[j]? = some (cs'[j]'(by omega)) := List.getElem?_eq_getElem (by omega)
        refine ⟨_, ?_, h5 j c _ hj hu⟩
        have := h2 j _ hu
        by_cases e0 : i * s.size + j = 0
        · rw [e0] at this
          rw [show off + i * s.size + j = off by omega]
          simpa [Addr.add] using this
        · simp only [Addr.add, if_neg e0] at this
          rwa [Nat.add_assoc]
      have hmem : ∀ r ∈ rows, s.Row r := fun r hr => by
        obtain ⟨i, hi⟩ := List.getElem?_of_mem hr
        exact (hrx i r hi).1
      refine ⟨[.list rows], ⟨rows, rfl, hmem⟩, fun j c u hj hu => ?_⟩
      match j with
      | 0 =>
        simp at hj hu
        subst hj; subst hu
        rw [← hrl]
        refine .list rows _ cap (fun i j => (w.cell? ⟨b, off + i * s.size + j, none⟩).getD default) (by omega) hmx (fun r hr => (hmem r hr).one) (fun _ => ⟨b, off, s.size, rfl, hb2, fun r hr => (hmem r hr).len, fun i j hi hj => ?_⟩) fun i j r c hr hc => ?_
        · have hri := hrx i _ (List.getElem?_eq_getElem hi)
          obtain ⟨u, hu, _⟩ := hri.2 j _ (List.getElem?_eq_getElem (by rw [hri.1.len]; exact hj))
          rw [hu]; rfl
        · obtain ⟨u, hu, hru⟩ := (hrx i r hr).2 j c hc
          rw [hu]; exact hru
      | j + 1 => simp at hj
theorem Read.app {s r : Sh} {a b : List Value} (ha : Read w s a) (hb : Read w r b) : Read w (.cons s r) (a ++ b) := by
  obtain ⟨h1, x, h2, h3⟩ := ha
  obtain ⟨k1, y, k2, k3⟩ := hb
  refine ⟨by rw [List.length_append, h1, k1]; rfl, x ++ y, ⟨x, y, rfl, h2, k2⟩, fun j c u hc hu => ?_⟩
  have hx := h2.len
  by_cases hj : j < x.length
  · rw [List.getElem?_append_left hj] at hc
    rw [List.getElem?_append_left (by omega)] at hu
    exact h3 j c u hc hu
  · rw [List.getElem?_append_right (by omega)] at hc
    rw [List.getElem?_append_right (by omega)] at hu
    rw [hx, ← h1] at hc
    exact k3 _ c u hc hu
theorem read_flds {ok : Sh → TypeId → Bool} {m : Nat} (hok : ∀ s t, ok s t = true → Opens enc P w s t) {cs : List Value} : ∀ (s : Sh) (fs : List Field) (o : Nat), s.flds P ok fs o = true → o + s.size = cs.length →
    (∀ f ∈ fs, ∃ y, DataW.trod enc P w 0 (fun _ => true) true m f.type ((cs.drop f.offset).take (P.cellsOf f.type)) = some y) → Read w s (cs.drop o)
  | .nil, [], o, _, hl, _ => by
    rw [List.drop_eq_nil_of_le (by simp only [Sh.size] at hl; omega)]
    exact ⟨rfl, [], rfl, by simp⟩
  | .cons s r, f :: fs, o, h, hl, hf => by
    simp only [Sh.flds, Bool.and_eq_true, beq_iff_eq] at h
    obtain ⟨⟨⟨h1, h2⟩, h3⟩, h4⟩ := h
    obtain ⟨y, hy⟩ := hf f List.mem_cons_self
    rw [h1, h2] at hy
    have k1 := hok s f.type h3 _ _ _ hy
    have k2 := read_flds hok r fs (o + s.size) h4 (by simp only [Sh.size] at hl; omega) fun g hg => hf g (List.mem_cons_of_mem _ hg)
    have := k1.app k2
    rwa [← List.drop_drop, List.take_append_drop] at this
  | .nil, _ :: _, _, h, _, _ => by simp [Sh.flds] at h
  | .cons _ _, [], _, h, _, _ => by simp [Sh.flds] at h
  | .int _, _, _, h, _, _ => by simp [Sh.flds] at h
  | .bool, _, _, h, _, _ => by simp [Sh.flds] at h
  | .sl _, _, _, h, _, _ => by simp [Sh.flds] at h
  | .arr _ _, _, _, h, _, _ => by simp [Sh.flds] at h
theorem read_arr {s : Sh} : ∀ (n : Nat) (cs : List Value), cs.length = n * s.size → (∀ i, i < n → Read w s ((cs.drop (i * s.size)).take s.size)) → Read w (.arr n s) cs
  | 0, cs, hl, _ => by
    have : cs = [] := List.eq_nil_of_length_eq_zero (by rw [hl, Nat.zero_mul])
    subst this
    exact ⟨by simp [Sh.size], [], ⟨[], rfl, rfl, by simp⟩, by simp⟩
  | n + 1, cs, hl, h => by
    have h0 := h 0 (by omega)
    rw [Nat.zero_mul, List.drop_zero] at h0
    have h1 := read_arr (s := s) n (cs.drop s.size) (by rw [List.length_drop, hl, Nat.add_mul]; omega) fun i hi => by
      have := h (i + 1) (by omega)
      rw [List.drop_drop]
      rwa [Nat.add_mul, Nat.one_mul, Nat.add_comm] at this
    obtain ⟨a1, a, a2, a3⟩ := h0
    obtain ⟨b1, b, ⟨rows, b2, b3, b4⟩, b5⟩ := h1
    refine ⟨hl, a ++ b, ⟨a :: rows, by simp [b2], by simp [b3], fun x hx => ?_⟩, fun j c u hc hu => ?_⟩
    · rcases List.mem_cons.1 hx with rfl | hx
      · exact a2
      · exact b4 x hx
    · have hx := a2.len
      rw [← List.take_append_drop s.size cs] at hu
      by_cases hj : j < a.length
      · rw [List.getElem?_append_left hj] at hc
        rw [List.getElem?_append_left (by omega)] at hu
        exact a3 j c u hc hu
      · rw [List.getElem?_append_right (by omega)] at hc
        rw [List.getElem?_append_right (by omega)] at hu
        rw [hx, ← a1] at hc
        exact b5 _ c u hc hu
theorem okF_opens : ∀ (n : Nat) (s : Sh) (t : TypeId), s.okF P n t = true → Opens enc P w s t
  | 0, s, t, h => by simp [Sh.okF] at h
  | n + 1, s, t, h => by
    unfold Sh.okF at h
    split at h
    · rename_i k hu
      split at h
      · rename_i k'
        obtain rfl := of_decide_eq_true h
        intro fuel cs x hx
        obtain ⟨m, rfl, _, hw⟩ := DataW.trod_int hu hx
        refine ⟨rfl, _, ⟨m, rfl, hw⟩, fun j c u hc hu => ?_⟩
        match j with
        | 0 => simp at hc hu; subst hc; subst hu; exact .val _ rfl
        | j + 1 => simp at hc
      · cases h
    · rename_i hu
      split at h
      · intro fuel cs x hx
        obtain ⟨m, rfl, _⟩ := DataW.trod_bool hu hx
        refine ⟨rfl, _, ⟨m, rfl⟩, fun j c u hc hu => ?_⟩
        match j with
        | 0 => simp at hc hu; subst hc; subst hu; exact .val _ rfl
        | j + 1 => simp at hc
      · cases h
    · rename_i fs hu
      simp only [Bool.and_eq_true, beq_iff_eq] at h
      intro fuel cs x hx
      obtain ⟨xs, m, _, _, hl, hxl, hf⟩ := DataW.trod_struct hu hx
      have := read_flds (okF_opens n) s fs.toList 0 h.2 (by rw [hl, h.1]; omega) (m := m) (cs := cs) fun f hf' => by
        obtain ⟨i, hi⟩ := List.getElem?_of_mem hf'
        have hi2 : fs[i]? = some f := by simpa using hi
        have hlt : i < fs.size := (Array.getElem?_eq_some_iff.1 hi2).1
        exact ⟨_, (hf i f hi2).trans (List.getElem?_eq_getElem (by omega))⟩
      rwa [List.drop_zero] at this
    · rename_i e hu
      split at h
      · rename_i s'
        simp only [Bool.and_eq_true, beq_iff_eq] at h
        exact opens_slice hu (Nat.le_of_ble_eq_true h.1.1) h.1.2 (okF_opens n s' e h.2)
      · cases h
    · rename_i m e hu
      split at h
      · rename_i m' s'
        simp only [Bool.and_eq_true, beq_iff_eq] at h
        obtain ⟨⟨⟨rfl, h2⟩, h3⟩, h4⟩ := h
        intro fuel cs x hx
        obtain ⟨xs, k, _, _, hl, hxl, hf⟩ := DataW.trod_array hu hx
        refine read_arr m cs (by rw [hl, h3]) fun i hi => ?_
        have := hf i hi
        rw [List.getElem?_eq_getElem (by omega), h2] at this
        exact okF_opens n s' e h4 _ _ _ this
      · cases h
    · cases h
/-- The datum of a value. -/
def Sh.D : Sh → Dat → Prop
  | .int k, d => ∃ n, d = .val (.int k n) ∧ (Lit.int k n).wf = true
  | .bool, d => ∃ b, d = .val (.bool b)
  | .sl s, d => ∃ rows : List (List Dat), d = .list rows ∧ ∀ x ∈ rows, s.Row x
  | s, d => ∃ r, d = .agg r ∧ s.Row r
theorem one_eq' {u v : Value} (h : [u] = [v]) : u = v := by simpa using h
set_option maxRecDepth 100000 in
theorem open_sh (s : Sh) {n : Nat} {base : Nat} {t : TypeId} {v : Value} {d : DataW H} {p : List MemPlace} (hs : s.okF P n t = true) (hv : Value.okWide P w .any base t v) (h : DataW.Trod enc P w 0 (fun _ => true) true t v d p) :
    ∃ D, s.D D ∧ RepD (· < w.heap.size) w D v := by
  obtain ⟨fuel, hf⟩ := h
  have key := okF_opens (enc := enc) (w := w) n s t hs _ _ _ hf
  cases n with
  | zero => simp [Sh.okF] at hs
  | succ n =>
    unfold Sh.okF at hs
    have agg : ∀ cs, v = .agg cs → (s.D = fun d => ∃ r, d = .agg r ∧ s.Row r) → ∃ D, s.D D ∧ RepD (· < w.heap.size) w D v := fun ⟨cs⟩ e hD => by
      subst e
      obtain ⟨k1, r, k2, k3⟩ := key
      refine ⟨.agg r, by rw [hD]; exact ⟨r, rfl, k2⟩, .agg r _ ?_ k2.one fun i c u hc hu => k3 i c u hc (show cs[i]? = some u by simpa using hu)⟩
      rw [k2.len, ← k1]
      rfl
    split at hs
    · rename_i k hu
      split at hs
      · obtain ⟨m, rfl⟩ := okWide_int hu hv
        obtain ⟨k1, r, ⟨m', rfl, hw⟩, k3⟩ := key
        have := k3 0 _ _ rfl rfl
        exact ⟨_, ⟨m', rfl, hw⟩, this⟩
      · cases hs
    · rename_i hu
      split at hs
      · obtain ⟨m, rfl⟩ := okWide_bool hu hv
        obtain ⟨k1, r, ⟨m', rfl⟩, k3⟩ := key
        exact ⟨_, ⟨m', rfl⟩, k3 0 _ _ rfl rfl⟩
      · cases hs
    · rename_i fs hu
      obtain ⟨cs, e, _⟩ := okWide_struct hu hv
      simp only [Bool.and_eq_true] at hs
      refine agg cs e ?_
      cases s with
      | nil => rfl
      | cons => rfl
      | _ => simp [Sh.flds] at hs
    · rename_i e hu
      split at hs
      · obtain ⟨a, l, c, rfl⟩ := okWide_slice hu hv
        obtain ⟨k1, r, ⟨rows, rfl, hw⟩, k3⟩ := key
        exact ⟨_, ⟨rows, rfl, hw⟩, k3 0 _ _ rfl rfl⟩
      · cases hs
    · rename_i m e hu
      simp only [Value.okWide, hu] at hv
      obtain ⟨cs, e1, _⟩ := hv
      split at hs
      · exact agg cs e1 rfl
      · cases hs
    · cases hs
end
/-- What came in reads again, where all that was there is as it was. -/
theorem args_later' {H : Type} {enc : TypeId × Value → H} {P : Program} {W W' : World} {T : TypeId → Prop} (K : Kids P T) (hz : ∀ t e, T t → P.underlying t = some (.slice e) → 0 < P.cellsOf e) {ts : List TypeId} {vs : List Value} {ds : List (DataW H)} {ps : List MemPlace}
    (hT : ∀ t ∈ ts, T t) (h : DataW.TrodAll enc P W 0 (fun _ => true) true ts vs ds ps) (hb : Below W.heap.size W W') {sp : Nat → Bool} (hs : ∀ p ∈ ps, sp p.block = true) : DataW.TrodAll enc P W' 0 sp true ts vs ds ps := by
  have carry : ∀ {ts : List TypeId} {vs : List Value} {ds : List (DataW H)} {ps : List MemPlace}, DataW.TrodAll enc P W 0 (fun _ => true) true ts vs ds ps → DataW.TrodAll enc P W' 0 (fun _ => true) true ts vs ds ps := by
    intro ts
    induction ts with
    | nil =>
      intro vs ds ps h
      obtain ⟨rfl, rfl, rfl⟩ := trodAll_nil h
      rfl
    | cons t ts ih =>
      intro vs ds ps h
      obtain ⟨v, vs1, d, ds1, a, b, rfl, rfl, rfl, ⟨n, h1⟩, h2⟩ := trodAll_cons h
      refine ⟨a, b, ⟨n, DataW.trod_carry n _ _ _ h1 fun p hp => ?_⟩, ih h2, rfl⟩
      have hlt := DataW.trod_lt n _ _ _ h1 p hp
      cases p with
      | cell bl off => exact hb.cell (p := ⟨bl, off, none⟩) hlt
      | map bl => exact hb.block bl hlt
  exact (carry h).respare K hz hT hs
theorem rows_of {α : Type} {f : α → List Dat} : ∀ {rows : List (List Dat)}, (∀ x ∈ rows, ∃ a, x = f a) → ∃ l : List α, rows = l.map f
  | [], _ => ⟨[], rfl⟩
  | x :: rows, h => by
    obtain ⟨a, rfl⟩ := h x List.mem_cons_self
    obtain ⟨l, rfl⟩ := rows_of fun y hy => h y (List.mem_cons_of_mem _ hy)
    exact ⟨a :: l, rfl⟩
theorem ints_in {d : Dat} (h : (Sh.sl (.int .i64)).D d) : ∃ l : List Int, d = .list (l.map fun x => [.val (.int .i64 x)]) := by
  obtain ⟨rows, rfl, h⟩ := h
  obtain ⟨l, rfl⟩ := rows_of (f := fun x : Int => [.val (.int .i64 x)]) fun x hx => by
    obtain ⟨n, rfl, _⟩ := h x hx
    exact ⟨n, rfl⟩
  exact ⟨l, rfl⟩
/-- The same, with how great the numbers may be. -/
theorem intsW_in {k : IntKind} {d : Dat} (h : (Sh.sl (.int k)).D d) : ∃ l : List Int, d = .list (l.map fun x => [.val (.int k x)]) ∧ ∀ x ∈ l, (Lit.int k x).wf = true := by
  obtain ⟨rows, rfl, h⟩ := h
  obtain ⟨l, hl⟩ := rows_of (f := fun x : { x : Int // (Lit.int k x).wf = true } => [.val (.int k x.1)]) fun x hx => by
    obtain ⟨n, rfl, hn⟩ := h x hx
    exact ⟨⟨n, hn⟩, rfl⟩
  subst hl
  refine ⟨l.map (·.1), by rw [List.map_map]; rfl, fun x hx => ?_⟩
  obtain ⟨y, _, rfl⟩ := List.mem_map.1 hx
  exact y.2
/-- A law of which the engine says that it returns true. -/
theorem law_true {P : Program} {f : FuncId} {ds : List Dat} (h : ACall P f ds (.val (.bool true))) {W : World} {vs : Array Value} (hs : vs.size = ds.length) (hr : ∀ (i : Nat) d v, ds[i]? = some d → vs[i]? = some v → RepD (· < W.heap.size) W d v) :
    Calls P f vs W fun e w' => e = .returned (.bool true) ∧ Below W.heap.size W w' := by
  refine (h.calls (· < W.heap.size) W vs (fun _ h => h) hs hr).mono ?_
  rintro e w' ⟨v, rfl, hb, hv⟩
  cases hv
  exact ⟨rfl, hb⟩
theorem reps_nil {W : World} : ∀ (i : Nat) d v, ([] : List Dat)[i]? = some d → (#[] : Array Value)[i]? = some v → RepD (· < W.heap.size) W d v := fun i d v h => by simp at h
theorem reps_cons {W : World} {D : Dat} {ds : List Dat} {v : Value} {vs : List Value} (h : RepD (· < W.heap.size) W D v) (hr : ∀ (i : Nat) d v, ds[i]? = some d → (vs.toArray)[i]? = some v → RepD (· < W.heap.size) W d v) :
    ∀ (i : Nat) d u, (D :: ds)[i]? = some d → ((v :: vs).toArray)[i]? = some u → RepD (· < W.heap.size) W d u := fun i d u hd hu => by
  match i with
  | 0 => simp at hd hu; subst hd; subst hu; exact h
  | i + 1 => simp at hd hu; exact hr i d u hd (by simpa using hu)
end Go.Proofs.Ytielmlnmjiooiaa.Eng

/-
  Layer 5: the law KeenBooks; books that came in.
-/
namespace Go.Proofs.Ytielmlnmjiooiaa.Eng
open Go.RowKit

theorem greatK_c (b : Book) : ACall Try.prog 16 [bookD b] (bD (decide (50 < b.ts.length))) := by
  by_cases g : 50 < b.ts.length
  · rw [decide_eq_true g]
    have g' : (50 : Int) < b.ts.length := by omega
    refine acallK tabOk Try.func16 rfl rfl (show 1 ≤ _ by decide) rfl fun _ => ?_; simp only [Try.ntmps16]
    repeat (first | (with_reducible refine AWp.seqK fun _ => ?_) | (with_reducible refine AWp.blockK fun _ => ?_) | (with_reducible refine KK.go ?_) | (refine AWp.reg tabOk ?_; simp [-getElem?_pos, z0, z1, z2, g, g']) | (refine AWp.condK fun _ _ => ?_; simp [-getElem?_pos, z0, z1, z2, g, g']) | (refine AWp.ret ?_; try simp only [thenP]) | (refine AWp.skip ?_; try simp only [thenP]) | (refine AWp.exit ?_; try simp only [thenP]) | (with_reducible refine AWp.scopeK fun _ => ?_) | (refine AWp.label ?_; try simp only [thenP]) | (with_reducible refine SS.go (fun _ h => by cases h) ?_; try simp only [blockP, thenP]) | (with_reducible refine BB.go ?_; simp only [blockP, thenP, if_true, if_false, reduceIte]) | (refine AWp.draws tabOk (by kernel_rfl) (by kernel_rfl) ?_; simp [-getElem?_pos, z0, z1, z2, g, g']) | (with_reducible refine And.intro (show okLog _ _ = true from by kernel_rfl) ?_))
    (first | refine RR.ret ?_ | refine RR.normal ?_); simp []
  · rw [decide_eq_false g]
    have g' : ¬ (50 : Int) < b.ts.length := by omega
    refine acallK tabOk Try.func16 rfl rfl (show 1 ≤ _ by decide) rfl fun _ => ?_; simp only [Try.ntmps16]
    repeat (first | (with_reducible refine AWp.seqK fun _ => ?_) | (with_reducible refine AWp.blockK fun _ => ?_) | (with_reducible refine KK.go ?_) | (refine AWp.reg tabOk ?_; simp [-getElem?_pos, z0, z1, z2, g, g']) | (refine AWp.condK fun _ _ => ?_; simp [-getElem?_pos, z0, z1, z2, g, g']) | (refine AWp.ret ?_; try simp only [thenP]) | (refine AWp.skip ?_; try simp only [thenP]) | (refine AWp.exit ?_; try simp only [thenP]) | (with_reducible refine AWp.scopeK fun _ => ?_) | (refine AWp.label ?_; try simp only [thenP]) | (with_reducible refine SS.go (fun _ h => by cases h) ?_; try simp only [blockP, thenP]) | (with_reducible refine BB.go ?_; simp only [blockP, thenP, if_true, if_false, reduceIte]) | (refine AWp.draws tabOk (by kernel_rfl) (by kernel_rfl) ?_; simp [-getElem?_pos, z0, z1, z2, g, g']) | (with_reducible refine And.intro (show okLog _ _ = true from by kernel_rfl) ?_))
    (first | refine RR.ret ?_ | refine RR.normal ?_); simp []
set_option maxRecDepth 100000 in
set_option maxHeartbeats 8000000 in
theorem keenBooks_c (hw : ACall Try.prog 17 [] (.val (.bool true))) (b : Book) (l : List Int) : ACall Try.prog 3 [bookD b, intL l] (bD true) := by
  have cg := greatK_c b
  have c1 := checkBook_c b
  have c2 := refCheckBook_c b
  have c3 := checkTruth_c b l
  have c4 := refCheckTruth_c b l
  by_cases g : 50 < b.ts.length
  · rw [decide_eq_true g] at cg
    refine acallK tabOk Try.func3 rfl rfl (show 2 ≤ _ by decide) rfl fun _ => ?_; simp only [Try.ntmps3]
    repeat (first | (with_reducible refine AWp.seqK fun _ => ?_) | (with_reducible refine AWp.blockK fun _ => ?_) | (with_reducible refine KK.go ?_) | (refine AWp.reg tabOk ?_; simp [-getElem?_pos, z0, z1, z2, ]) | (refine AWp.condK fun _ _ => ?_; simp [-getElem?_pos, z0, z1, z2, ]) | (refine AWp.ret ?_; try simp only [thenP]) | (refine AWp.skip ?_; try simp only [thenP]) | (refine AWp.exit ?_; try simp only [thenP]) | (with_reducible refine AWp.scopeK fun _ => ?_) | (refine AWp.label ?_; try simp only [thenP]) | (with_reducible refine SS.go (fun _ h => by cases h) ?_; try simp only [blockP, thenP]) | (with_reducible refine BB.go ?_; simp only [blockP, thenP, if_true, if_false, reduceIte]) | (refine AWp.draws tabOk (by kernel_rfl) (by kernel_rfl) ?_; simp [-getElem?_pos, z0, z1, z2, ]) | (with_reducible refine And.intro (show okLog _ _ = true from by kernel_rfl) ?_))
    (first | refine Exec0.call [] cg ?_ rfl ?_ ?_ | refine Exec.call [] cg ?_ rfl ?_ ?_); (focus simp [-getElem?_pos, ]); (focus simp [-getElem?_pos, z0, z1, z2, ]); simp [-getElem?_pos, z0, z1, z2, ]
    repeat (first | (with_reducible refine AWp.seqK fun _ => ?_) | (with_reducible refine AWp.blockK fun _ => ?_) | (with_reducible refine KK.go ?_) | (refine AWp.reg tabOk ?_; simp [-getElem?_pos, z0, z1, z2, ]) | (refine AWp.condK fun _ _ => ?_; simp [-getElem?_pos, z0, z1, z2, ]) | (refine AWp.ret ?_; try simp only [thenP]) | (refine AWp.skip ?_; try simp only [thenP]) | (refine AWp.exit ?_; try simp only [thenP]) | (with_reducible refine AWp.scopeK fun _ => ?_) | (refine AWp.label ?_; try simp only [thenP]) | (with_reducible refine SS.go (fun _ h => by cases h) ?_; try simp only [blockP, thenP]) | (with_reducible refine BB.go ?_; simp only [blockP, thenP, if_true, if_false, reduceIte]) | (refine AWp.draws tabOk (by kernel_rfl) (by kernel_rfl) ?_; simp [-getElem?_pos, z0, z1, z2, ]) | (with_reducible refine And.intro (show okLog _ _ = true from by kernel_rfl) ?_))
    (first | refine Exec0.call [] hw ?_ rfl ?_ ?_ | refine Exec.call [] hw ?_ rfl ?_ ?_); (focus simp [-getElem?_pos, ]); (focus simp [-getElem?_pos, z0, z1, z2, ]); simp [-getElem?_pos, z0, z1, z2, ]
    repeat (first | (with_reducible refine AWp.seqK fun _ => ?_) | (with_reducible refine AWp.blockK fun _ => ?_) | (with_reducible refine KK.go ?_) | (refine AWp.reg tabOk ?_; simp [-getElem?_pos, z0, z1, z2, ]) | (refine AWp.condK fun _ _ => ?_; simp [-getElem?_pos, z0, z1, z2, ]) | (refine AWp.ret ?_; try simp only [thenP]) | (refine AWp.skip ?_; try simp only [thenP]) | (refine AWp.exit ?_; try simp only [thenP]) | (with_reducible refine AWp.scopeK fun _ => ?_) | (refine AWp.label ?_; try simp only [thenP]) | (with_reducible refine SS.go (fun _ h => by cases h) ?_; try simp only [blockP, thenP]) | (with_reducible refine BB.go ?_; simp only [blockP, thenP, if_true, if_false, reduceIte]) | (refine AWp.draws tabOk (by kernel_rfl) (by kernel_rfl) ?_; simp [-getElem?_pos, z0, z1, z2, ]) | (with_reducible refine And.intro (show okLog _ _ = true from by kernel_rfl) ?_))
    (first | refine RR.ret ?_ | refine RR.normal ?_); simp []
  rw [decide_eq_false g] at cg
  by_cases g2 : 30 < l.length
  · have g2' : (30 : Int) < l.length := by omega
    refine acallK tabOk Try.func3 rfl rfl (show 2 ≤ _ by decide) rfl fun _ => ?_; simp only [Try.ntmps3]
    repeat (first | (with_reducible refine AWp.seqK fun _ => ?_) | (with_reducible refine AWp.blockK fun _ => ?_) | (with_reducible refine KK.go ?_) | (refine AWp.reg tabOk ?_; simp [-getElem?_pos, z0, z1, z2, ]) | (refine AWp.condK fun _ _ => ?_; simp [-getElem?_pos, z0, z1, z2, ]) | (refine AWp.ret ?_; try simp only [thenP]) | (refine AWp.skip ?_; try simp only [thenP]) | (refine AWp.exit ?_; try simp only [thenP]) | (with_reducible refine AWp.scopeK fun _ => ?_) | (refine AWp.label ?_; try simp only [thenP]) | (with_reducible refine SS.go (fun _ h => by cases h) ?_; try simp only [blockP, thenP]) | (with_reducible refine BB.go ?_; simp only [blockP, thenP, if_true, if_false, reduceIte]) | (refine AWp.draws tabOk (by kernel_rfl) (by kernel_rfl) ?_; simp [-getElem?_pos, z0, z1, z2, ]) | (with_reducible refine And.intro (show okLog _ _ = true from by kernel_rfl) ?_))
    (first | refine Exec0.call [] cg ?_ rfl ?_ ?_ | refine Exec.call [] cg ?_ rfl ?_ ?_); (focus simp [-getElem?_pos, ]); (focus simp [-getElem?_pos, z0, z1, z2, ]); simp [-getElem?_pos, z0, z1, z2, ]
    repeat (first | (with_reducible refine AWp.seqK fun _ => ?_) | (with_reducible refine AWp.blockK fun _ => ?_) | (with_reducible refine KK.go ?_) | (refine AWp.reg tabOk ?_; simp [-getElem?_pos, z0, z1, z2, g2, g2']) | (refine AWp.condK fun _ _ => ?_; simp [-getElem?_pos, z0, z1, z2, g2, g2']) | (refine AWp.ret ?_; try simp only [thenP]) | (refine AWp.skip ?_; try simp only [thenP]) | (refine AWp.exit ?_; try simp only [thenP]) | (with_reducible refine AWp.scopeK fun _ => ?_) | (refine AWp.label ?_; try simp only [thenP]) | (with_reducible refine SS.go (fun _ h => by cases h) ?_; try simp only [blockP, thenP]) | (with_reducible refine BB.go ?_; simp only [blockP, thenP, if_true, if_false, reduceIte]) | (refine AWp.draws tabOk (by kernel_rfl) (by kernel_rfl) ?_; simp [-getElem?_pos, z0, z1, z2, g2, g2']) | (with_reducible refine And.intro (show okLog _ _ = true from by kernel_rfl) ?_))
    (first | refine Exec0.call [] hw ?_ rfl ?_ ?_ | refine Exec.call [] hw ?_ rfl ?_ ?_); (focus simp [-getElem?_pos, ]); (focus simp [-getElem?_pos, z0, z1, z2, ]); simp [-getElem?_pos, z0, z1, z2, ]
    repeat (first | (with_reducible refine AWp.seqK fun _ => ?_) | (with_reducible refine AWp.blockK fun _ => ?_) | (with_reducible refine KK.go ?_) | (refine AWp.reg tabOk ?_; simp [-getElem?_pos, z0, z1, z2, ]) | (refine AWp.condK fun _ _ => ?_; simp [-getElem?_pos, z0, z1, z2, ]) | (refine AWp.ret ?_; try simp only [thenP]) | (refine AWp.skip ?_; try simp only [thenP]) | (refine AWp.exit ?_; try simp only [thenP]) | (with_reducible refine AWp.scopeK fun _ => ?_) | (refine AWp.label ?_; try simp only [thenP]) | (with_reducible refine SS.go (fun _ h => by cases h) ?_; try simp only [blockP, thenP]) | (with_reducible refine BB.go ?_; simp only [blockP, thenP, if_true, if_false, reduceIte]) | (refine AWp.draws tabOk (by kernel_rfl) (by kernel_rfl) ?_; simp [-getElem?_pos, z0, z1, z2, ]) | (with_reducible refine And.intro (show okLog _ _ = true from by kernel_rfl) ?_))
    (first | refine RR.ret ?_ | refine RR.normal ?_); simp []
  · have g2' : ¬ (30 : Int) < l.length := by omega
    generalize bookErr b = e1 at *
    generalize truthErr b l = e2 at *
    refine acallK tabOk Try.func3 rfl rfl (show 2 ≤ _ by decide) rfl fun _ => ?_; simp only [Try.ntmps3]
    repeat (first | (with_reducible refine AWp.seqK fun _ => ?_) | (with_reducible refine AWp.blockK fun _ => ?_) | (with_reducible refine KK.go ?_) | (refine AWp.reg tabOk ?_; simp [-getElem?_pos, z0, z1, z2, ]) | (refine AWp.condK fun _ _ => ?_; simp [-getElem?_pos, z0, z1, z2, ]) | (refine AWp.ret ?_; try simp only [thenP]) | (refine AWp.skip ?_; try simp only [thenP]) | (refine AWp.exit ?_; try simp only [thenP]) | (with_reducible refine AWp.scopeK fun _ => ?_) | (refine AWp.label ?_; try simp only [thenP]) | (with_reducible refine SS.go (fun _ h => by cases h) ?_; try simp only [blockP, thenP]) | (with_reducible refine BB.go ?_; simp only [blockP, thenP, if_true, if_false, reduceIte]) | (refine AWp.draws tabOk (by kernel_rfl) (by kernel_rfl) ?_; simp [-getElem?_pos, z0, z1, z2, ]) | (with_reducible refine And.intro (show okLog _ _ = true from by kernel_rfl) ?_))
    (first | refine Exec0.call [] cg ?_ rfl ?_ ?_ | refine Exec.call [] cg ?_ rfl ?_ ?_); (focus simp [-getElem?_pos, ]); (focus simp [-getElem?_pos, z0, z1, z2, ]); simp [-getElem?_pos, z0, z1, z2, ]
    repeat (first | (with_reducible refine AWp.seqK fun _ => ?_) | (with_reducible refine AWp.blockK fun _ => ?_) | (with_reducible refine KK.go ?_) | (refine AWp.reg tabOk ?_; simp [-getElem?_pos, z0, z1, z2, g2, g2']) | (refine AWp.condK fun _ _ => ?_; simp [-getElem?_pos, z0, z1, z2, g2, g2']) | (refine AWp.ret ?_; try simp only [thenP]) | (refine AWp.skip ?_; try simp only [thenP]) | (refine AWp.exit ?_; try simp only [thenP]) | (with_reducible refine AWp.scopeK fun _ => ?_) | (refine AWp.label ?_; try simp only [thenP]) | (with_reducible refine SS.go (fun _ h => by cases h) ?_; try simp only [blockP, thenP]) | (with_reducible refine BB.go ?_; simp only [blockP, thenP, if_true, if_false, reduceIte]) | (refine AWp.draws tabOk (by kernel_rfl) (by kernel_rfl) ?_; simp [-getElem?_pos, z0, z1, z2, g2, g2']) | (with_reducible refine And.intro (show okLog _ _ = true from by kernel_rfl) ?_))
    (first | refine Exec0.call [] c1 ?_ rfl ?_ ?_ | refine Exec.call [] c1 ?_ rfl ?_ ?_); (focus simp [-getElem?_pos, ]); (focus simp [-getElem?_pos, z0, z1, z2, ]); simp [-getElem?_pos, z0, z1, z2, ]
    repeat (first | (with_reducible refine AWp.seqK fun _ => ?_) | (with_reducible refine AWp.blockK fun _ => ?_) | (with_reducible refine KK.go ?_) | (refine AWp.reg tabOk ?_; simp [-getElem?_pos, z0, z1, z2, ]) | (refine AWp.condK fun _ _ => ?_; simp [-getElem?_pos, z0, z1, z2, ]) | (refine AWp.ret ?_; try simp only [thenP]) | (refine AWp.skip ?_; try simp only [thenP]) | (refine AWp.exit ?_; try simp only [thenP]) | (with_reducible refine AWp.scopeK fun _ => ?_) | (refine AWp.label ?_; try simp only [thenP]) | (with_reducible refine SS.go (fun _ h => by cases h) ?_; try simp only [blockP, thenP]) | (with_reducible refine BB.go ?_; simp only [blockP, thenP, if_true, if_false, reduceIte]) | (refine AWp.draws tabOk (by kernel_rfl) (by kernel_rfl) ?_; simp [-getElem?_pos, z0, z1, z2, ]) | (with_reducible refine And.intro (show okLog _ _ = true from by kernel_rfl) ?_))
    (first | refine Exec0.call [] c2 ?_ rfl ?_ ?_ | refine Exec.call [] c2 ?_ rfl ?_ ?_); (focus simp [-getElem?_pos, ]); (focus simp [-getElem?_pos, z0, z1, z2, ]); simp [-getElem?_pos, z0, z1, z2, ]
    repeat (first | (with_reducible refine AWp.seqK fun _ => ?_) | (with_reducible refine AWp.blockK fun _ => ?_) | (with_reducible refine KK.go ?_) | (refine AWp.reg tabOk ?_; simp [-getElem?_pos, z0, z1, z2, ]) | (refine AWp.condK fun _ _ => ?_; simp [-getElem?_pos, z0, z1, z2, ]) | (refine AWp.ret ?_; try simp only [thenP]) | (refine AWp.skip ?_; try simp only [thenP]) | (refine AWp.exit ?_; try simp only [thenP]) | (with_reducible refine AWp.scopeK fun _ => ?_) | (refine AWp.label ?_; try simp only [thenP]) | (with_reducible refine SS.go (fun _ h => by cases h) ?_; try simp only [blockP, thenP]) | (with_reducible refine BB.go ?_; simp only [blockP, thenP, if_true, if_false, reduceIte]) | (refine AWp.draws tabOk (by kernel_rfl) (by kernel_rfl) ?_; simp [-getElem?_pos, z0, z1, z2, ]) | (with_reducible refine And.intro (show okLog _ _ = true from by kernel_rfl) ?_))
    (first | refine Exec0.call [] c3 ?_ rfl ?_ ?_ | refine Exec.call [] c3 ?_ rfl ?_ ?_); (focus simp [-getElem?_pos, ]); (focus simp [-getElem?_pos, z0, z1, z2, ]); simp [-getElem?_pos, z0, z1, z2, ]
    repeat (first | (with_reducible refine AWp.seqK fun _ => ?_) | (with_reducible refine AWp.blockK fun _ => ?_) | (with_reducible refine KK.go ?_) | (refine AWp.reg tabOk ?_; simp [-getElem?_pos, z0, z1, z2, ]) | (refine AWp.condK fun _ _ => ?_; simp [-getElem?_pos, z0, z1, z2, ]) | (refine AWp.ret ?_; try simp only [thenP]) | (refine AWp.skip ?_; try simp only [thenP]) | (refine AWp.exit ?_; try simp only [thenP]) | (with_reducible refine AWp.scopeK fun _ => ?_) | (refine AWp.label ?_; try simp only [thenP]) | (with_reducible refine SS.go (fun _ h => by cases h) ?_; try simp only [blockP, thenP]) | (with_reducible refine BB.go ?_; simp only [blockP, thenP, if_true, if_false, reduceIte]) | (refine AWp.draws tabOk (by kernel_rfl) (by kernel_rfl) ?_; simp [-getElem?_pos, z0, z1, z2, ]) | (with_reducible refine And.intro (show okLog _ _ = true from by kernel_rfl) ?_))
    (first | refine Exec0.call [] c4 ?_ rfl ?_ ?_ | refine Exec.call [] c4 ?_ rfl ?_ ?_); (focus simp [-getElem?_pos, ]); (focus simp [-getElem?_pos, z0, z1, z2, ]); simp [-getElem?_pos, z0, z1, z2, ]
    repeat (first | (with_reducible refine AWp.seqK fun _ => ?_) | (with_reducible refine AWp.blockK fun _ => ?_) | (with_reducible refine KK.go ?_) | (refine AWp.reg tabOk ?_; simp [-getElem?_pos, z0, z1, z2, ]) | (refine AWp.condK fun _ _ => ?_; simp [-getElem?_pos, z0, z1, z2, ]) | (refine AWp.ret ?_; try simp only [thenP]) | (refine AWp.skip ?_; try simp only [thenP]) | (refine AWp.exit ?_; try simp only [thenP]) | (with_reducible refine AWp.scopeK fun _ => ?_) | (refine AWp.label ?_; try simp only [thenP]) | (with_reducible refine SS.go (fun _ h => by cases h) ?_; try simp only [blockP, thenP]) | (with_reducible refine BB.go ?_; simp only [blockP, thenP, if_true, if_false, reduceIte]) | (refine AWp.draws tabOk (by kernel_rfl) (by kernel_rfl) ?_; simp [-getElem?_pos, z0, z1, z2, ]) | (with_reducible refine And.intro (show okLog _ _ = true from by kernel_rfl) ?_))
    (first | refine Exec0.call [] hw ?_ rfl ?_ ?_ | refine Exec.call [] hw ?_ rfl ?_ ?_); (focus simp [-getElem?_pos, ]); (focus simp [-getElem?_pos, z0, z1, z2, ]); simp [-getElem?_pos, z0, z1, z2, ]
    repeat (first | (with_reducible refine AWp.seqK fun _ => ?_) | (with_reducible refine AWp.blockK fun _ => ?_) | (with_reducible refine KK.go ?_) | (refine AWp.reg tabOk ?_; simp [-getElem?_pos, z0, z1, z2, ]) | (refine AWp.condK fun _ _ => ?_; simp [-getElem?_pos, z0, z1, z2, ]) | (refine AWp.ret ?_; try simp only [thenP]) | (refine AWp.skip ?_; try simp only [thenP]) | (refine AWp.exit ?_; try simp only [thenP]) | (with_reducible refine AWp.scopeK fun _ => ?_) | (refine AWp.label ?_; try simp only [thenP]) | (with_reducible refine SS.go (fun _ h => by cases h) ?_; try simp only [blockP, thenP]) | (with_reducible refine BB.go ?_; simp only [blockP, thenP, if_true, if_false, reduceIte]) | (refine AWp.draws tabOk (by kernel_rfl) (by kernel_rfl) ?_; simp [-getElem?_pos, z0, z1, z2, ]) | (with_reducible refine And.intro (show okLog _ _ = true from by kernel_rfl) ?_))
    (first | refine RR.ret ?_ | refine RR.normal ?_); simp []
def shTest : Sh := .cons (.int .i64) (.cons (.int .i64) (.cons (.cons (.int .i64) (.cons (.int .i64) .nil)) .nil))
def shBook : Sh := .cons (.int .i64) (.cons (.sl shTest) .nil)
theorem test_in {r : List Dat} (h : shTest.Row r) : ∃ t : KT, r = ktRow t := by
  obtain ⟨_, _, rfl, ⟨a, rfl, _⟩, _, _, rfl, ⟨b, rfl, _⟩, _, _, rfl, ⟨_, _, rfl, ⟨lo, rfl, _⟩, _, _, rfl, ⟨hi, rfl, _⟩, rfl⟩, rfl⟩ := h
  exact ⟨⟨a, b, lo, hi⟩, rfl⟩
theorem book_in {d : Dat} (h : shBook.D d) : ∃ b : Book, d = bookD b := by
  obtain ⟨_, rfl, _, _, rfl, ⟨m, rfl, _⟩, _, _, rfl, ⟨rows, rfl, hr⟩, rfl⟩ := h
  obtain ⟨l, rfl⟩ := rows_of fun x hx => test_in (hr x hx)
  exact ⟨⟨m, l⟩, rfl⟩
end Go.Proofs.Ytielmlnmjiooiaa.Eng

namespace Go.Proofs.Ytielmlnmjiooiaa.keenBooks
open Go.ChangeShapes Go.WideShapes Go.ChangeAt Go.RowKit Go.Deep

theorem own : ownKnob Try.prog.godebug = none := by kernel_rfl
theorem kids : Kids Try.prog (· < Try.prog.types.size) := kids_rows (by kernel_rfl) (by kernel_rfl)
theorem full : ∀ t e, t < Try.prog.types.size → Try.prog.underlying t = some (.slice e) → 0 < Try.prog.cellsOf e := slices_full_of Try.prog (by kernel_rfl)
theorem rowed : ∀ t ∈ Try.f3.params.toList, t < Try.prog.types.size := of_decide_eq_true (by kernel_rfl)

set_option maxRecDepth 100000 in
set_option maxHeartbeats 1000000 in
theorem lifted (os : Os) (started : os.Started) (H : Type) (enc : TypeId × Value → H) :
    ReturnsInHanded {} Try.checked os 3 .any (Rows.keenBooksSpec.pre6 enc Try.prog Try.f3 Rows.keenBooksRow.domain false) (Rows.keenBooksSpec.post enc Try.prog Try.f3 false true false false) := by
  refine returnsInHanded_of_change (C := Try.checked) own started (by kernel_rfl) Try.func3
    (ChangeSpec.witness6 (enc := enc) (C := Try.checked) false ⟨#[], #[.agg #[.int .i64 0, .slice none 0 0], .slice none 0 0], []⟩ 8 (by kernel_rfl) (by kernel_rfl) (by kernel_rfl) (by kernel_rfl)) ?_
  intro W base args ds gs before hval0 hW hcnd _
  have hval : ∀ (j : Nat) t v, Try.f3.params[j]? = some t → args[j]? = some v → Value.okWide Try.prog W .any base t v := hval0
  have hW' := hW
  obtain ⟨p, q, hA0, hV, rfl, hfz, hnd⟩ := hW
  have hA : DataW.TrodAll enc Try.prog W 0 (fun _ => true) true Try.f3.params.toList args.toList ds p := hA0
  have hAk := hA
  rw [Try.params3] at hA hval
  obtain ⟨v0, vs0, d0, ds0, a0, b0, e0, f0, rfl, h0, t0⟩ := trodAll_cons hA
  obtain ⟨v1, vs1, d1, ds1, a1, b1, e1, f1, rfl, h1, t1⟩ := trodAll_cons t0
  obtain ⟨en, fn, rfl⟩ := trodAll_nil t1
  subst en
  subst fn
  subst e1
  subst f1
  subst f0
  have ea : args = #[v0, v1] := by rw [← Array.toList_inj]; exact e0
  subst ea
  clear e0
  obtain ⟨rfl, rfl⟩ := trodVars_none hV
  clear hA0 hval0 hA
  simp only [List.append_nil] at hW' hAk
  have o0 := hval 0 _ _ rfl rfl
  have o1 := hval 1 _ _ rfl rfl
  clear hval
  obtain ⟨D0, s0, r0⟩ := Eng.open_sh (n := 9) (Eng.shBook) (by kernel_rfl) o0 h0
  obtain ⟨D1, s1, r1⟩ := Eng.open_sh (n := 9) (.sl (.int .i64)) (by kernel_rfl) o1 h1
  obtain ⟨b, rfl⟩ := Eng.book_in s0
  obtain ⟨l, rfl⟩ := Eng.ints_in s1
  refine Calls.mono (Eng.law_true (Eng.keenBooks_c Eng.works_call b l) rfl (Eng.reps_cons r0 (Eng.reps_cons r1 Eng.reps_nil))) fun e W' ⟨he, hb⟩ => ?_
  subst he
  exact ⟨_, rfl, post_later (pv := []) hW' (List.append_nil _).symm (fun _ _ _ => (trodAll_cons_mk (shut_bool Try.underlying4 _) trodAll_mk0))
    (fun sp hsp => Eng.args_later' kids full rowed hAk hb hsp) (fun _ _ => rfl) (ok_one (by kernel_rfl) rfl (okWide_bool_mk Try.underlying4 _)) hb⟩

theorem over : Rows.keenBooksRow.holds Try.pinned (OpenSpec.ofChange Rows.keenBooksSpec) :=
  OpenClaim.holds_of_wide 3 Try.f3 rfl rfl rfl rfl rfl rfl rfl ⟨rfl, rfl, rfl, rfl, rfl⟩ rfl rfl rfl rfl rfl (by kernel_rfl) Try.func3 (by kernel_rfl)
    (of_decide_eq_true (by kernel_rfl)) (by unfold Func.isWrapper; first | (rw [if_pos (by decide +kernel)]; kernel_rfl) | (rw [if_neg (by decide +kernel)]; exact ⟨rfl, rfl⟩))
    (fun os started H enc _ => lifted os started H enc)

theorem proved : Rows.KeenBooksSaid := over
end Go.Proofs.Ytielmlnmjiooiaa.keenBooks
