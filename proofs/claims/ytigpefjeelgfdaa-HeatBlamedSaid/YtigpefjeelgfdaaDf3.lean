/-
  A part of the texts that the claim builds on: see the last one.
-/
import Derived.Test.YtigpefjeelgfdaaDf2
import Derived.Deep.OwnRows
import Derived.StillTail
import Derived.Deep.RegionLawGrows
import Derived.Laws.CopyOwn
import Derived.Laws.CopyRow
import Derived.Deep.MidRow
import Derived.Stop.BytesEq
set_option linter.unusedSimpArgs false
set_option linter.unusedVariables false
/-
  Layer 1: steps, ways and recipes as they lie in memory; lists of errors. No program is named here.
-/
namespace Go.Proofs.Ytigpefjeelgfdaa
open Go.RowKit

abbrev WaysA (w : World) (B : Nat) (A : Option Addr) (l : List (List Kink)) : Prop := SLa (WayAt B) 1 w B A l
abbrev StepsA (w : World) (B : Nat) (A : Option Addr) (l : List (List (List Kink))) : Prop := SLa (StepAt B) 1 w B A l

theorem waysA {w : World} {B : Nat} {A : Option Addr} {l : List (List Kink)} (h : WaysA w B A l) {i : Nat} (hi : i < l.length) :
    ∃ b off A' c' ks, A = some ⟨b, off, none⟩ ∧ b < B ∧ Hid (l[i]? = some ks) ∧ w.cell? ⟨b, off + i, none⟩ = some (.slice A' ks.length c') ∧ ks.length ≤ c' ∧ c' ≤ 9223372036854775807 ∧ KinksA w B A' ks := by
  obtain ⟨b, off, x, h1, h2, h3, v, h4, A', c', h5, h6, h7, h8⟩ := SLa.at_ h hi
  subst h5
  exact ⟨b, off, A', c', x, h1, h2, h3, by simpa using h4, h6, h7, h8⟩
theorem stepsA {w : World} {B : Nat} {A : Option Addr} {l : List (List (List Kink))} (h : StepsA w B A l) {i : Nat} (hi : i < l.length) :
    ∃ b off A' c' ws, A = some ⟨b, off, none⟩ ∧ b < B ∧ Hid (l[i]? = some ws) ∧ w.cell? ⟨b, off + i, none⟩ = some (.slice A' ws.length c') ∧ ws.length ≤ c' ∧ c' ≤ 9223372036854775807 ∧ WaysA w B A' ws := by
  obtain ⟨b, off, x, h1, h2, h3, v, h4, A', c', h5, h6, h7, h8⟩ := SLa.at_ h hi
  subst h5
  exact ⟨b, off, A', c', x, h1, h2, h3, by simpa using h4, h6, h7, h8⟩
theorem ways_on {w w' : World} {B n : Nat} {A : Option Addr} {l : List (List Kink)} (h : WaysA w B A l) (hb : Below n w w') (hB : B ≤ n) : WaysA w' B A l :=
  SLa.keep h (Nat.le_refl _) fun _ _ _ hlt ⟨u, h1, h2⟩ => ⟨u, ((Same.of_below (hb.mono hB)).cell hlt _).trans h1, h2.keep (Same.of_below (hb.mono hB)) (Nat.le_refl _)⟩
theorem steps_on {w w' : World} {B n : Nat} {A : Option Addr} {l : List (List (List Kink))} (h : StepsA w B A l) (hb : Below n w w') (hB : B ≤ n) : StepsA w' B A l :=
  SLa.keep h (Nat.le_refl _) fun _ _ _ hlt ⟨u, h1, h2⟩ => ⟨u, ((Same.of_below (hb.mono hB)).cell hlt _).trans h1, h2.keep (Same.of_below (hb.mono hB)) (Nat.le_refl _)⟩

/-- The first number that is not 0. -/
def errs {α : Type} (p : α → Int) : List α → Int
  | [] => 0
  | x :: l => if p x = 0 then errs p l else p x
def zeroB {α : Type} (p : α → Int) (x : α) : Bool := decide (p x = 0)
theorem errs_append {α : Type} (p : α → Int) (a b : List α) : errs p (a ++ b) = if errs p a = 0 then errs p b else errs p a := by
  induction a with
  | nil => simp [errs]
  | cons x a ih =>
    simp only [List.cons_append, errs, ih]
    by_cases hx : p x = 0
    · simp [hx]
    · simp [hx]
theorem errs_zero {α : Type} {p : α → Int} {l : List α} : errs p l = 0 ↔ l.all (zeroB p) = true := by
  induction l with
  | nil => simp [errs]
  | cons x l ih =>
    simp only [errs, List.all_cons, Bool.and_eq_true, zeroB, decide_eq_true_eq]
    by_cases hx : p x = 0
    · simpa [hx] using ih
    · simp [hx]
theorem errs_at {α : Type} {p : α → Int} {l : List α} {k : Nat} {x : α} (h : Upto (zeroB p) l k) (hx : Hid (l[k]? = some x)) (hp : p x ≠ 0) : errs p l = p x := by
  have h0 : errs p (l.take k) = 0 := errs_zero.2 h
  have hk := getI hx.out
  have e : l = l.take k ++ (x :: l.drop (k + 1)) := by
    obtain ⟨hk', hx'⟩ := List.getElem?_eq_some_iff.1 hx.out
    rw [← hx']
    simp
  rw [e, errs_append, h0, if_pos rfl, errs, if_neg hp]

/-! ### a works -/
def barOk (r : Rg) : Bool := isHardB r.1 r.2
def waysMany (ws : List (List Kink)) : Bool := !(decide (ws.length < 1 ∨ 5 < ws.length))
def manyOk (x : Works) : Bool := !(decide (x.bars.length < 1 ∨ 6 < x.bars.length ∨ 6 < x.steps.length)) && x.steps.all waysMany
def worksErr (x : Works) : Int :=
  if manyOk x = false then 6 else if x.bars.all barOk = false then 2 else errs (errs wayErr) x.steps
theorem worksErr_many {x : Works} (h : manyOk x = false) : worksErr x = 6 := by rw [worksErr, if_pos h]
theorem worksErr_bar {x : Works} (h : manyOk x = true) (h2 : x.bars.all barOk = false) : worksErr x = 2 := by rw [worksErr, if_neg (by simp [h]), if_pos h2]
theorem worksErr_way {x : Works} (h : manyOk x = true) (h2 : x.bars.all barOk = true) : worksErr x = errs (errs wayErr) x.steps := by rw [worksErr, if_neg (by simp [h]), if_neg (by simp [h2])]
/-- A valid works. -/
def WorksOk (x : Works) : Prop := worksErr x = 0
theorem worksOk_iff {x : Works} : WorksOk x ↔ manyOk x = true ∧ x.bars.all barOk = true ∧ x.steps.all (zeroB (errs wayErr)) = true := by
  unfold WorksOk worksErr
  by_cases h1 : manyOk x = false
  · rw [if_pos h1]; simp [h1]
  · rw [if_neg h1]
    have h1' : manyOk x = true := by simpa using h1
    by_cases h2 : x.bars.all barOk = false
    · rw [if_pos h2]; simp [h2]
    · rw [if_neg h2]
      have h2' : x.bars.all barOk = true := by simpa using h2
      rw [errs_zero]
      simp [h1', h2']
end Go.Proofs.Ytigpefjeelgfdaa

/-
  Walks of layer 1, seventh part: valid works.
-/
namespace Go.Proofs.Ytigpefjeelgfdaa
open Go.RowKit

theorem waysMany_t {ws : List (List Kink)} (h1 : ¬ ws.length < 1) (h2 : ¬ 5 < ws.length) : waysMany ws = true := by unfold waysMany; rw [decide_eq_false (by omega)]; rfl
theorem waysMany_f {ws : List (List Kink)} (h : ws.length < 1 ∨ 5 < ws.length) : waysMany ws = false := by unfold waysMany; rw [decide_eq_true h]; rfl

set_option maxHeartbeats 400000 in
theorem countsInRange_any (Ab As : Option Addr) (cb cs : Nat) (x : Works) (B : Nat) (w : World) (hs : StepsA w B As x.steps) (hc : x.steps.length ≤ cs) (hm : cs ≤ 9223372036854775807) (hcb : x.bars.length ≤ cb) (hmb : cb ≤ 9223372036854775807) (hB : B ≤ w.heap.size) :
    Calls Try.prog 58 #[.agg #[.slice Ab x.bars.length cb, .slice As x.steps.length cs]] w fun e w' => e = .returned (.bool (manyOk x)) ∧ Below w.heap.size w w' := by
  by_cases g1 : x.bars.length < 1 ∨ 6 < x.bars.length ∨ 6 < x.steps.length
  · have R : Hid (manyOk x = false) := by simp only [Hid, manyOk, g1]; simp
    by_cases q1 : x.bars.length < 1
    · clear g1
      go_enter Try.func58, Try.ntmps58
      go_wp2_with fail
      go_ret
      exact ⟨ret_bool R.out.symm, bel⟩
    by_cases q2 : 6 < x.bars.length
    · clear g1
      go_enter Try.func58, Try.ntmps58
      go_wp2_with fail
      go_ret
      exact ⟨ret_bool R.out.symm, bel⟩
    have q3 : 6 < x.steps.length := by omega
    clear g1
    go_enter Try.func58, Try.ntmps58
    go_wp2_with fail
    go_ret
    exact ⟨ret_bool R.out.symm, bel⟩
  obtain ⟨q1, q2, q3⟩ : ¬ x.bars.length < 1 ∧ ¬ 6 < x.bars.length ∧ ¬ 6 < x.steps.length := by omega
  have E : Hid (manyOk x = x.steps.all waysMany) := by simp only [Hid, manyOk, g1]; simp
  clear g1
  go_enter Try.func58, Try.ntmps58
  go_wp2_with fail
  go_loopw [4, 24] (fun _ i wr => ∃ (k : Nat), k ≤ x.steps.length ∧ i = .int .i64 k ∧ Upto waysMany x.steps k ∧ Below w.heap.size w wr)
    (fun _ i _ => x.steps.length - (intOf i).toNat)
  case atStart =>
    exact ⟨0, by omega, rfl, Upto.zero _ _, bel⟩
  case round =>
    obtain ⟨k, hk, rfl, hup, hbl⟩ := hrel
    by_cases hlt : k < x.steps.length
    · obtain ⟨b, off, A', c', ws, rfl, hb, hx, d0, l1, l2, hws⟩ := stepsA (steps_on hs hbl hB) hlt
      have hz := hbl.size
      have hbr : b < wr.heap.size := by omega
      by_cases p1 : ws.length < 1
      · have R : Hid (manyOk x = false) := E.out.trans (Upto.fail hx (waysMany_f (.inl p1)))
        go_wp2_with fail
        go_ret
        exact ⟨ret_bool R.out.symm, bel⟩
      by_cases p2 : 5 < ws.length
      · have R : Hid (manyOk x = false) := E.out.trans (Upto.fail hx (waysMany_f (.inr p2)))
        go_wp2_with fail
        go_ret
        exact ⟨ret_bool R.out.symm, bel⟩
      have ok : Hid (waysMany ws = true) := waysMany_t p1 p2
      go_wp2_with fail
      go_roundw
      case rel => exact ⟨k + 1, by omega, by go_num, hup.succ hx ok.out, bel⟩
      case measure => simp [intOf]; omega
    · have R : Hid (manyOk x = true) := E.out.trans (hup.done (by omega))
      go_wp2_with fail
      go_ret
      exact ⟨ret_bool R.out.symm, bel⟩

set_option maxHeartbeats 1000000 in
theorem heatCheckWorks_any (Ab As : Option Addr) (cb cs : Nat) (x : Works) (B : Nat) (w : World) (hbs : RgsA w B Ab x.bars) (hs : StepsA w B As x.steps) (hc : x.steps.length ≤ cs) (hm : cs ≤ 9223372036854775807) (hcb : x.bars.length ≤ cb) (hmb : cb ≤ 9223372036854775807) (hB : B ≤ w.heap.size) :
    Calls Try.prog 21 #[.agg #[.slice Ab x.bars.length cb, .slice As x.steps.length cs]] w fun e w' => e = .returned (.int .i64 (worksErr x)) ∧ Below w.heap.size w w' := by
  cases g1 : manyOk x
  · have R : Hid (worksErr x = 6) := worksErr_many g1
    have G1 := Lib.hid g1
    clear g1
    go_enter Try.func21, Try.ntmps21
    go_wp2_with (go_at_call 58; refine (countsInRange_any _ _ _ _ x B _ (steps_on hs (n := w.heap.size) bel hB) hc hm hcb hmb (by (focus (first | omega | (simp only [World.size_alloc, World.size_setCell, World.size_drew, World.heap_drewN]; first | done | omega))))).mono ?_; rintro e w1 ⟨rfl, hb1⟩; rw [G1.out]; obtain ⟨_hr1, _hr2⟩ := below_reads hb1; have _hz := Below.size hb1; (try simp only [World.size_alloc, World.size_setCell, World.size_drew, World.heap_drewN] at _hz); obtain ⟨_hr3, _hr4⟩ := below_reads (show Below w.heap.size w w1 from bel); have _q0 : w.heap.size < w1.heap.size := (by omega))
    go_ret
    exact ⟨ret_int R.out.symm, bel⟩
  have G1 := Lib.hid g1
  have bad2 : Hid (x.bars.all barOk = false → worksErr x = 2) := worksErr_bar g1
  have way : Hid (x.bars.all barOk = true → worksErr x = errs (errs wayErr) x.steps) := worksErr_way g1
  clear g1
  go_enter Try.func21, Try.ntmps21
  go_wp2_with (go_at_call 58; refine (countsInRange_any _ _ _ _ x B _ (steps_on hs (n := w.heap.size) bel hB) hc hm hcb hmb (by (focus (first | omega | (simp only [World.size_alloc, World.size_setCell, World.size_drew, World.heap_drewN]; first | done | omega))))).mono ?_; rintro e w1 ⟨rfl, hb1⟩; rw [G1.out]; obtain ⟨_hr1, _hr2⟩ := below_reads hb1; have _hz := Below.size hb1; (try simp only [World.size_alloc, World.size_setCell, World.size_drew, World.heap_drewN] at _hz); obtain ⟨_hr3, _hr4⟩ := below_reads (show Below w.heap.size w w1 from bel); have _q0 : w.heap.size < w1.heap.size := (by omega))
  go_loopw [4, 16] (fun _ i wr => ∃ (k : Nat), k ≤ x.bars.length ∧ i = .int .i64 k ∧ Upto barOk x.bars k ∧ Below w.heap.size w wr ∧ Box wr w.heap.size 25 #[.slice Ab x.bars.length cb, .slice As x.steps.length cs])
    (fun _ i _ => x.bars.length - (intOf i).toNat)
  case atStart =>
    refine ⟨0, by omega, rfl, Upto.zero _ _, bel, ?_⟩
    exact bxt
  case round =>
    obtain ⟨k, hk, rfl, hup, hbl, bw⟩ := hrel
    obtain ⟨u1, u2, u3, u4⟩ := bw.two
    have hz := bw.lt
    by_cases hlt : k < x.bars.length
    · obtain ⟨b, off, lo, hi, rfl, hb, hx, d0, d1⟩ := rgsA (rgs_on hbs hbl hB) hlt
      have hbr : b < wr.heap.size := by omega
      rcases isHard_cases lo hi with g | g
      · have G := Lib.hid g
        clear g
        go_wp2_with (go_at_call 59; refine (isHardRange_any _ _ _).mono ?_; rintro e w2 ⟨rfl, hb2⟩; rw [G.out]; obtain ⟨_hr1, _hr2⟩ := below_reads hb2; have _hz := Below.size hb2; (try simp only [World.size_alloc, World.size_setCell, World.size_drew, World.heap_drewN] at _hz))
        go_roundw
        case rel =>
          refine ⟨k + 1, by omega, by go_num, hup.succ hx G.out, bel, ?_⟩
          exact bxt
        case measure => simp [intOf]; omega
      · have R : Hid (worksErr x = 2) := bad2.out (Upto.fail hx g)
        have G := Lib.hid g
        clear g
        go_wp2_with (go_at_call 59; refine (isHardRange_any _ _ _).mono ?_; rintro e w2 ⟨rfl, hb2⟩; rw [G.out]; obtain ⟨_hr1, _hr2⟩ := below_reads hb2; have _hz := Below.size hb2; (try simp only [World.size_alloc, World.size_setCell, World.size_drew, World.heap_drewN] at _hz))
        go_ret
        exact ⟨ret_int R.out.symm, bel⟩
    · have W : Hid (worksErr x = errs (errs wayErr) x.steps) := way.out (hup.done (by omega))
      clear hup
      go_wp2_with fail
      obtain ⟨wo, rfl⟩ : ∃ wo : World, wo = wr := ⟨_, rfl⟩
      go_loopw [27] (fun i wr => ∃ (k : Nat), k ≤ x.steps.length ∧ i = .int .i64 k ∧ Upto (zeroB (errs wayErr)) x.steps k ∧ Below w.heap.size w wr)
        (fun i _ => x.steps.length - (intOf i).toNat)
      case atStart =>
        exact ⟨0, by omega, rfl, Upto.zero _ _, bel⟩
      case round =>
        obtain ⟨k, hk, rfl, hup, hbl⟩ := hrel
        have hz := hbl.size
        by_cases hlt : k < x.steps.length
        · obtain ⟨b, off, A', c', ws, rfl, hb, hx, d0, l1, l2, hws⟩ := stepsA hs hlt
          have d1 := (hbl.cell (p := ⟨b, off + k, none⟩) (by simp only []; omega)).trans d0
          have hbr : b < wr.heap.size := by omega
          go_wp2_with fail
          obtain ⟨wp, rfl⟩ : ∃ wp : World, wp = wr := ⟨_, rfl⟩
          go_loopw [34] (fun i wr => ∃ (m : Nat), m ≤ ws.length ∧ i = .int .i64 m ∧ Upto (zeroB wayErr) ws m ∧ Below w.heap.size w wr)
            (fun i _ => ws.length - (intOf i).toNat)
          case atStart =>
            exact ⟨0, by omega, rfl, Upto.zero _ _, bel⟩
          case round =>
            obtain ⟨m, hm', rfl, hup2, hbl2⟩ := hrel
            have hz2 := hbl2.size
            by_cases hlt2 : m < ws.length
            · obtain ⟨b2, off2, A2, c2, ks, rfl, hb2, hx2, e0, l3, l4, hks⟩ := waysA hws hlt2
              have e1 := (hbl2.cell (p := ⟨b2, off2 + m, none⟩) (by simp only []; omega)).trans e0
              have hbr2 : b2 < wr.heap.size := by omega
              by_cases g : wayErr ks = 0
              · have G := Lib.hid g
                clear g
                go_wp2_with (go_at_call 19; refine (heatCheckWay_any _ _ ks B _ (kinks_on hks (n := w.heap.size) bel hB) l3 l4 (by (focus (first | omega | (simp only [World.size_alloc, World.size_setCell, World.size_drew, World.heap_drewN]; first | done | omega))))).mono ?_; rintro e w2 ⟨rfl, hb2⟩; rw [G.out]; obtain ⟨_hr1, _hr2⟩ := below_reads hb2; have _hz := Below.size hb2; (try simp only [World.size_alloc, World.size_setCell, World.size_drew, World.heap_drewN] at _hz))
                go_roundw
                case rel =>
                  exact ⟨m + 1, by omega, by go_num, hup2.succ hx2 (by simp [zeroB, G.out]), bel⟩
                case measure => simp [intOf]; omega
              · have ne : errs wayErr ws = wayErr ks := errs_at hup2 hx2 g
                have R : Hid (worksErr x = wayErr ks) := W.out.trans ((errs_at hup hx (by rw [ne]; exact g)).trans ne)
                have g' : (wayErr ks != 0) = true := by simp [g]
                clear ne g
                go_wp2_with (go_at_call 19; refine (heatCheckWay_any _ _ ks B _ (kinks_on hks (n := w.heap.size) bel hB) l3 l4 (by (focus (first | omega | (simp only [World.size_alloc, World.size_setCell, World.size_drew, World.heap_drewN]; first | done | omega))))).mono ?_; rintro e w2 ⟨rfl, hb2⟩; obtain ⟨_hr1, _hr2⟩ := below_reads hb2; have _hz := Below.size hb2; (try simp only [World.size_alloc, World.size_setCell, World.size_drew, World.heap_drewN] at _hz))
                go_ret
                exact ⟨ret_int R.out.symm, bel⟩
            · have ok : Hid (zeroB (errs wayErr) ws = true) := by simp only [Hid, zeroB, decide_eq_true_eq]; exact errs_zero.2 (hup2.done (by omega))
              go_wp2_with fail
              go_roundw
              case rel => exact ⟨k + 1, by omega, by go_num, hup.succ hx ok.out, bel⟩
              case measure => simp [intOf]; omega
        · have R : Hid (worksErr x = 0) := W.out.trans (errs_zero.2 (hup.done (by omega)))
          go_wp2_with fail
          go_ret
          exact ⟨ret_int R.out.symm, bel⟩
end Go.Proofs.Ytigpefjeelgfdaa

/-
  Layer 1, plain: recipes and histories.
-/
namespace Go.Proofs.Ytigpefjeelgfdaa
open Go.RowKit

def intAt (l : List Int) (i : Nat) : Int := l.getD i 0
theorem intAt_of {l : List Int} {i : Nat} {x : Int} (hx : Hid (l[i]? = some x)) : intAt l i = x := by simp [intAt, List.getD, hx.out]
def stepAt (l : List (List (List Kink))) (i : Nat) : List (List Kink) := l.getD i []
theorem stepAt_of {l : List (List (List Kink))} {i : Nat} {x : List (List Kink)} (hx : Hid (l[i]? = some x)) : stepAt l i = x := by simp [stepAt, List.getD, hx.out]
def kinksAt (l : List (List Kink)) (i : Nat) : List Kink := l.getD i []
theorem kinksAt_of {l : List (List Kink)} {i : Nat} {x : List Kink} (hx : Hid (l[i]? = some x)) : kinksAt l i = x := by simp [kinksAt, List.getD, hx.out]
def rgAt (l : List Rg) (i : Nat) : Rg := l.getD i (0, 0)
theorem rgAt_of {l : List Rg} {i : Nat} {x : Rg} (hx : Hid (l[i]? = some x)) : rgAt l i = x := by simp [rgAt, List.getD, hx.out]

/-- The way of a recipe for step i is one of its ways. -/
def wayIn (steps : List (List (List Kink))) (ways : List Int) (i : Nat) : Bool := decide (0 ≤ intAt ways i ∧ intAt ways i < (stepAt steps i).length)
/-- The errors of a works and a recipe. -/
def recErr (x : Works) (bar : Int) (ways : List Int) : Int :=
  if worksErr x ≠ 0 then worksErr x else if ways.length ≠ x.steps.length then 15 else if bar < 0 ∨ (x.bars.length : Int) ≤ bar then 3 else if allN (wayIn x.steps ways) ways.length = false then 3 else 0
structure RecOk (x : Works) (bar : Int) (ways : List Int) : Prop where
  works : worksErr x = 0
  len : ways.length = x.steps.length
  bar0 : 0 ≤ bar
  bar1 : bar < x.bars.length
  ways : ∀ i, i < ways.length → wayIn x.steps ways i = true
theorem recOk_iff {x : Works} {bar : Int} {ways : List Int} : recErr x bar ways = 0 ↔ RecOk x bar ways := by
  unfold recErr
  by_cases h1 : worksErr x = 0
  · rw [if_neg (by simpa using h1)]
    by_cases h2 : ways.length = x.steps.length
    · rw [if_neg (by simpa using h2)]
      by_cases h3 : bar < 0 ∨ (x.bars.length : Int) ≤ bar
      · rw [if_pos h3]
        exact ⟨fun h => absurd h (by decide), fun h => by have := h.bar0; have := h.bar1; omega⟩
      · rw [if_neg h3]
        by_cases h4 : allN (wayIn x.steps ways) ways.length = false
        · rw [if_pos h4]
          refine ⟨fun h => absurd h (by decide), fun h => ?_⟩
          have := allN_iff.2 h.ways
          rw [h4] at this
          cases this
        · rw [if_neg h4]
          refine ⟨fun _ => ⟨h1, h2, by omega, by omega, allN_iff.1 (by simpa using h4)⟩, fun _ => rfl⟩
    · rw [if_pos h2]
      exact ⟨fun h => absurd h (by decide), fun h => absurd h.len h2⟩
  · rw [if_pos h1]
    exact ⟨fun h => absurd h h1, fun h => absurd h.works h1⟩
theorem recErr_works {x : Works} {bar : Int} {ways : List Int} (h : worksErr x ≠ 0) : recErr x bar ways = worksErr x := by rw [recErr, if_pos h]
theorem recErr_len {x : Works} {bar : Int} {ways : List Int} (h : worksErr x = 0) (h2 : ways.length ≠ x.steps.length) : recErr x bar ways = 15 := by rw [recErr, if_neg (by simpa using h), if_pos h2]
theorem recErr_bar {x : Works} {bar : Int} {ways : List Int} (h : worksErr x = 0) (h2 : ways.length = x.steps.length) (h3 : bar < 0 ∨ (x.bars.length : Int) ≤ bar) : recErr x bar ways = 3 := by
  rw [recErr, if_neg (by simpa using h), if_neg (by simpa using h2), if_pos h3]
theorem recErr_way {x : Works} {bar : Int} {ways : List Int} {k : Nat} (h : worksErr x = 0) (h2 : ways.length = x.steps.length) (h3 : ¬ (bar < 0 ∨ (x.bars.length : Int) ≤ bar)) (hk : k < ways.length) (h4 : wayIn x.steps ways k = false) :
    recErr x bar ways = 3 := by
  rw [recErr, if_neg (by simpa using h), if_neg (by simpa using h2), if_neg h3, if_pos (UptoN.fail hk h4)]
theorem recErr_ok {x : Works} {bar : Int} {ways : List Int} (h : worksErr x = 0) (h2 : ways.length = x.steps.length) (h3 : ¬ (bar < 0 ∨ (x.bars.length : Int) ≤ bar)) (h4 : allN (wayIn x.steps ways) ways.length = true) :
    recErr x bar ways = 0 := by
  rw [recErr, if_neg (by simpa using h), if_neg (by simpa using h2), if_neg h3, if_neg (by simp [h4])]

/-- The way of a recipe for step i. -/
def wayOf (x : Works) (ways : List Int) (i : Nat) : List Kink := kinksAt (stepAt x.steps i) (intAt ways i).toNat
theorem wayErr_of {x : Works} (h : worksErr x = 0) {i j : Nat} {ws : List (List Kink)} {ks : List Kink} (h1 : x.steps[i]? = some ws) (h2 : ws[j]? = some ks) : wayErr ks = 0 := by
  obtain ⟨_, _, h3⟩ := worksOk_iff.1 h
  have h4 := List.all_eq_true.1 h3 ws (List.mem_of_getElem? h1)
  simp only [zeroB, decide_eq_true_eq] at h4
  have h5 := List.all_eq_true.1 (errs_zero.1 h4) ks (List.mem_of_getElem? h2)
  simpa [zeroB] using h5
theorem bar_of {x : Works} (h : worksErr x = 0) {i : Nat} {r : Rg} (h1 : x.bars[i]? = some r) : 0 ≤ r.1 ∧ r.1 ≤ r.2 ∧ r.2 ≤ 1000 := by
  obtain ⟨_, h3, _⟩ := worksOk_iff.1 h
  exact isHardB_iff.1 (List.all_eq_true.1 h3 r (List.mem_of_getElem? h1))

/-! ### histories -/
/-- In which range the hardness number i has to be. -/
def within (x : Works) (bar : Int) (ways hist : List Int) : Nat → Rg
  | 0 => rgAt x.bars bar.toNat
  | i + 1 => aft (wayOf x ways i) (intAt hist i)
def histOk (x : Works) (bar : Int) (ways hist : List Int) (i : Nat) : Bool := inB (intAt hist i) (within x bar ways hist i).1 (within x bar ways hist i).2
def histErr (x : Works) (bar : Int) (ways hist : List Int) : Int :=
  if recErr x bar ways ≠ 0 then recErr x bar ways else if hist.length ≠ x.steps.length + 1 then 15 else if allN (histOk x bar ways hist) hist.length = false then 16 else 0
theorem histErr_rec {x : Works} {bar : Int} {ways hist : List Int} (h : recErr x bar ways ≠ 0) : histErr x bar ways hist = recErr x bar ways := by rw [histErr, if_pos h]
theorem histErr_len {x : Works} {bar : Int} {ways hist : List Int} (h : recErr x bar ways = 0) (h2 : hist.length ≠ x.steps.length + 1) : histErr x bar ways hist = 15 := by rw [histErr, if_neg (by simpa using h), if_pos h2]
theorem histErr_no {x : Works} {bar : Int} {ways hist : List Int} {k : Nat} (h : recErr x bar ways = 0) (h2 : hist.length = x.steps.length + 1) (hk : k < hist.length) (h3 : histOk x bar ways hist k = false) : histErr x bar ways hist = 16 := by
  rw [histErr, if_neg (by simpa using h), if_neg (by simpa using h2), if_pos (UptoN.fail hk h3)]
theorem histErr_ok {x : Works} {bar : Int} {ways hist : List Int} (h : recErr x bar ways = 0) (h2 : hist.length = x.steps.length + 1) (h3 : allN (histOk x bar ways hist) hist.length = true) : histErr x bar ways hist = 0 := by
  rw [histErr, if_neg (by simpa using h), if_neg (by simpa using h2), if_neg (by simp [h3])]

/-- The way of step i, as it lies in memory. -/
theorem way_at {w : World} {B : Nat} {As Ar : Option Addr} {x : Works} {bar : Int} {ways : List Int} (hs : StepsA w B As x.steps) (hr : IntsA .i64 w B Ar ways) (ok : RecOk x bar ways) {i : Nat} (hi : i < x.steps.length) :
    ∃ (b1 o1 b2 o2 b3 o3 : Nat) (A1 A2 : Option Addr) (c1 c2 : Nat) (ws : List (List Kink)) (m : Nat) (ks : List Kink),
      As = some ⟨b1, o1, none⟩ ∧ Ar = some ⟨b2, o2, none⟩ ∧ A1 = some ⟨b3, o3, none⟩ ∧ b1 < B ∧ b2 < B ∧ b3 < B ∧ m < ws.length ∧
      w.cell? ⟨b1, o1 + i, none⟩ = some (.slice A1 ws.length c1) ∧ w.cell? ⟨b2, o2 + i, none⟩ = some (.int .i64 (m : Int)) ∧ w.cell? ⟨b3, o3 + m, none⟩ = some (.slice A2 ks.length c2) ∧
      ws.length ≤ c1 ∧ c1 ≤ 9223372036854775807 ∧ ks.length ≤ c2 ∧ c2 ≤ 9223372036854775807 ∧ KinksA w B A2 ks ∧ Hid (wayOf x ways i = ks) ∧ wayErr ks = 0 ∧ 0 < ks.length ∧ Hid (intAt ways i = (m : Int)) := by
  obtain ⟨b1, o1, A1, c1, ws, e1, hb1, hx1, d1, l1, l2, hws⟩ := stepsA hs hi
  obtain ⟨b2, o2, n, e2, hb2, hx2, d2⟩ := intsA hr (i := i) (by rw [ok.len]; exact hi)
  have hin := ok.ways i (by rw [ok.len]; exact hi)
  simp only [wayIn, intAt_of hx2, stepAt_of hx1, decide_eq_true_eq] at hin
  obtain ⟨m, rfl⟩ := Int.eq_ofNat_of_zero_le hin.1
  have hm : m < ws.length := by omega
  obtain ⟨b3, o3, A2, c2, ks, e3, hb3, hx3, d3, l3, l4, hks⟩ := waysA hws hm
  have he := wayErr_of ok.works hx1.out hx3.out
  refine ⟨b1, o1, b2, o2, b3, o3, A1, A2, c1, c2, ws, m, ks, e1, e2, e3, hb1, hb2, hb3, hm, d1, d2, d3, l1, l2, l3, l4, hks, ?_, he, ?_, Lib.hid (intAt_of hx2)⟩
  · simp only [Hid, wayOf, stepAt_of hx1, intAt_of hx2, Int.toNat_natCast, kinksAt_of hx3]
  · unfold wayErr at he
    split at he <;> omega
end Go.Proofs.Ytigpefjeelgfdaa

/-
  Walks of layer 1, ninth part: recipes.
-/
namespace Go.Proofs.Ytigpefjeelgfdaa
open Go.RowKit

/-- How a works and a recipe come in: as values, and as they lie in memory. -/
structure In (w : World) (B : Nat) (Ab As Ar : Option Addr) (cb cs cr : Nat) (x : Works) (ways : List Int) : Prop where
  bars : RgsA w B Ab x.bars
  steps : StepsA w B As x.steps
  rways : IntsA .i64 w B Ar ways
  cb1 : x.bars.length ≤ cb
  cb2 : cb ≤ 9223372036854775807
  cs1 : x.steps.length ≤ cs
  cs2 : cs ≤ 9223372036854775807
  cr1 : ways.length ≤ cr
  cr2 : cr ≤ 9223372036854775807
  le : B ≤ w.heap.size
theorem In.on {w w' : World} {B n : Nat} {Ab As Ar : Option Addr} {cb cs cr : Nat} {x : Works} {ways : List Int} (h : In w B Ab As Ar cb cs cr x ways) (hb : Below n w w') (hB : B ≤ n) : In w' B Ab As Ar cb cs cr x ways :=
  ⟨rgs_on h.bars hb hB, steps_on h.steps hb hB, ints_on h.rways hb hB, h.cb1, h.cb2, h.cs1, h.cs2, h.cr1, h.cr2, Nat.le_trans h.le hb.size⟩

set_option maxHeartbeats 1000000 in
theorem checkRecipe_any (Ab As Ar : Option Addr) (cb cs cr : Nat) (x : Works) (bar : Int) (ways : List Int) (B : Nat) (w : World) (h : In w B Ab As Ar cb cs cr x ways) :
    Calls Try.prog 60 #[.agg #[.slice Ab x.bars.length cb, .slice As x.steps.length cs], .agg #[.int .i64 bar, .slice Ar ways.length cr]] w
      fun e w' => e = .returned (.int .i64 (recErr x bar ways)) ∧ Below w.heap.size w w' := by
  obtain ⟨hb, hs, hw, k1, k2, k3, k4, k5, k6, hB⟩ := h
  by_cases g1 : worksErr x = 0
  · have G1 := Lib.hid g1
    by_cases g2 : ways.length = x.steps.length
    · have g2' : ((ways.length : Int) != (x.steps.length : Int)) = false := by simp [g2]
      have G2 := Lib.hid g2
      by_cases g3 : bar < 0 ∨ (x.bars.length : Int) ≤ bar
      · have R : Hid (recErr x bar ways = 3) := recErr_bar g1 g2 g3
        clear g1 g2
        by_cases q1 : bar < 0
        · clear g3
          go_enter Try.func60, Try.ntmps60
          go_wp2_with (go_at_call 21; refine (heatCheckWorks_any _ _ _ _ x B _ (rgs_on hb (n := w.heap.size) bel hB) (steps_on hs (n := w.heap.size) bel hB) k3 k4 k1 k2 (by (focus (first | omega | (simp only [World.size_alloc, World.size_setCell, World.size_drew, World.heap_drewN]; first | done | omega))))).mono ?_; rintro e w1 ⟨rfl, hb1⟩; rw [G1.out]; obtain ⟨_hr1, _hr2⟩ := below_reads hb1; have _hz := Below.size hb1; (try simp only [World.size_alloc, World.size_setCell, World.size_drew, World.heap_drewN] at _hz); obtain ⟨_hr3, _hr4⟩ := below_reads (show Below w.heap.size w w1 from bel); have _q0 : w.heap.size < w1.heap.size := (by omega); have _q1 : w.heap.size + 1 < w1.heap.size := (by omega))
          go_ret
          exact ⟨ret_int R.out.symm, bel⟩
        · have q2 : (x.bars.length : Int) ≤ bar := by omega
          clear g3
          go_enter Try.func60, Try.ntmps60
          go_wp2_with (go_at_call 21; refine (heatCheckWorks_any _ _ _ _ x B _ (rgs_on hb (n := w.heap.size) bel hB) (steps_on hs (n := w.heap.size) bel hB) k3 k4 k1 k2 (by (focus (first | omega | (simp only [World.size_alloc, World.size_setCell, World.size_drew, World.heap_drewN]; first | done | omega))))).mono ?_; rintro e w1 ⟨rfl, hb1⟩; rw [G1.out]; obtain ⟨_hr1, _hr2⟩ := below_reads hb1; have _hz := Below.size hb1; (try simp only [World.size_alloc, World.size_setCell, World.size_drew, World.heap_drewN] at _hz); obtain ⟨_hr3, _hr4⟩ := below_reads (show Below w.heap.size w w1 from bel); have _q0 : w.heap.size < w1.heap.size := (by omega); have _q1 : w.heap.size + 1 < w1.heap.size := (by omega))
          go_ret
          exact ⟨ret_int R.out.symm, bel⟩
      · obtain ⟨q1, q2⟩ : ¬ bar < 0 ∧ ¬ (x.bars.length : Int) ≤ bar := by omega
        have bad : Hid (∀ k, k < ways.length → wayIn x.steps ways k = false → recErr x bar ways = 3) := fun k hk h4 => recErr_way g1 g2 g3 hk h4
        have fin : Hid (allN (wayIn x.steps ways) ways.length = true → recErr x bar ways = 0) := recErr_ok g1 g2 g3
        clear g1 g2 g3
        go_enter Try.func60, Try.ntmps60
        go_wp2_with (go_at_call 21; refine (heatCheckWorks_any _ _ _ _ x B _ (rgs_on hb (n := w.heap.size) bel hB) (steps_on hs (n := w.heap.size) bel hB) k3 k4 k1 k2 (by (focus (first | omega | (simp only [World.size_alloc, World.size_setCell, World.size_drew, World.heap_drewN]; first | done | omega))))).mono ?_; rintro e w1 ⟨rfl, hb1⟩; rw [G1.out]; obtain ⟨_hr1, _hr2⟩ := below_reads hb1; have _hz := Below.size hb1; (try simp only [World.size_alloc, World.size_setCell, World.size_drew, World.heap_drewN] at _hz); obtain ⟨_hr3, _hr4⟩ := below_reads (show Below w.heap.size w w1 from bel); have _q0 : w.heap.size < w1.heap.size := (by omega); have _q1 : w.heap.size + 1 < w1.heap.size := (by omega))
        go_loopw [6, 7, 34] (fun _ _ i wr => ∃ (k : Nat), k ≤ ways.length ∧ i = .int .i64 k ∧ UptoN (wayIn x.steps ways) k ∧ Below w.heap.size w wr ∧ Box wr w.heap.size 25 #[.slice Ab x.bars.length cb, .slice As x.steps.length cs])
          (fun _ _ i _ => ways.length - (intOf i).toNat)
        case atStart =>
          refine ⟨0, by omega, rfl, UptoN.zero _, bel, ?_⟩
          exact bxt
        case round =>
          obtain ⟨k, hk, rfl, hup, hbl, bw⟩ := hrel
          obtain ⟨u1, u2, u3, u4⟩ := bw.two
          have hz := bw.lt
          by_cases hlt : k < ways.length
          · obtain ⟨b2, o2, n, rfl, hb2, hx2, d2⟩ := intsA (ints_on hw hbl hB) hlt
            have hlt' : k < x.steps.length := by have := G2.out; omega
            obtain ⟨b1, o1, A1, c1, ws, rfl, hb1', hx1, d1, l1, l2, hws⟩ := stepsA (steps_on hs hbl hB) hlt'
            have hbr1 : b1 < wr.heap.size := by omega
            have hbr2 : b2 < wr.heap.size := by omega
            by_cases p : 0 ≤ n ∧ n < (ws.length : Int)
            · have ok : Hid (wayIn x.steps ways k = true) := by simp only [Hid, wayIn, intAt_of hx2, stepAt_of hx1, decide_eq_true_eq]; exact p
              obtain ⟨p1, p2⟩ := p
              go_wp2_with fail
              go_roundw
              case rel =>
                refine ⟨k + 1, by omega, by go_num, hup.succ ok.out, bel, ?_⟩
                exact bxt
              case measure => simp [intOf]; omega
            · have R : Hid (recErr x bar ways = 3) := bad.out k hlt (by simp only [wayIn, intAt_of hx2, stepAt_of hx1, decide_eq_false_iff_not]; exact p)
              by_cases p1 : n < 0
              · clear p
                go_wp2_with fail
                go_ret
                exact ⟨ret_int R.out.symm, bel⟩
              · have p2 : (ws.length : Int) ≤ n := by omega
                clear p
                go_wp2_with fail
                go_ret
                exact ⟨ret_int R.out.symm, bel⟩
          · have R : Hid (recErr x bar ways = 0) := fin.out (hup.done (by omega))
            go_wp2_with fail
            go_ret
            exact ⟨ret_int R.out.symm, bel⟩
    · have g2' : ((ways.length : Int) != (x.steps.length : Int)) = true := by simp; omega
      have R : Hid (recErr x bar ways = 15) := recErr_len g1 g2
      clear g1 g2
      go_enter Try.func60, Try.ntmps60
      go_wp2_with (go_at_call 21; refine (heatCheckWorks_any _ _ _ _ x B _ (rgs_on hb (n := w.heap.size) bel hB) (steps_on hs (n := w.heap.size) bel hB) k3 k4 k1 k2 (by (focus (first | omega | (simp only [World.size_alloc, World.size_setCell, World.size_drew, World.heap_drewN]; first | done | omega))))).mono ?_; rintro e w1 ⟨rfl, hb1⟩; rw [G1.out]; obtain ⟨_hr1, _hr2⟩ := below_reads hb1; have _hz := Below.size hb1; (try simp only [World.size_alloc, World.size_setCell, World.size_drew, World.heap_drewN] at _hz); obtain ⟨_hr3, _hr4⟩ := below_reads (show Below w.heap.size w w1 from bel); have _q0 : w.heap.size < w1.heap.size := (by omega); have _q1 : w.heap.size + 1 < w1.heap.size := (by omega))
      go_ret
      exact ⟨ret_int R.out.symm, bel⟩
  · have R : Hid (recErr x bar ways = worksErr x) := recErr_works g1
    have g1' : (worksErr x != 0) = true := by simp [g1]
    clear g1
    go_enter Try.func60, Try.ntmps60
    go_wp2_with (go_at_call 21; refine (heatCheckWorks_any _ _ _ _ x B _ (rgs_on hb (n := w.heap.size) bel hB) (steps_on hs (n := w.heap.size) bel hB) k3 k4 k1 k2 (by (focus (first | omega | (simp only [World.size_alloc, World.size_setCell, World.size_drew, World.heap_drewN]; first | done | omega))))).mono ?_; rintro e w1 ⟨rfl, hb1⟩; obtain ⟨_hr1, _hr2⟩ := below_reads hb1; have _hz := Below.size hb1; (try simp only [World.size_alloc, World.size_setCell, World.size_drew, World.heap_drewN] at _hz); obtain ⟨_hr3, _hr4⟩ := below_reads (show Below w.heap.size w w1 from bel); have _q0 : w.heap.size < w1.heap.size := (by omega); have _q1 : w.heap.size + 1 < w1.heap.size := (by omega))
    go_ret
    exact ⟨ret_int R.out.symm, bel⟩
end Go.Proofs.Ytigpefjeelgfdaa

/-
  One row of memory is written, all else that was there stays. No program is named here.
-/
namespace Go.Proofs.Ytigpefjeelgfdaa
open Go.RowKit

section
variable {a b w w' : World} {row : Option Nat} {g : Nat}
theorem gb_refl (w : World) (row : Option Nat) : w.grownBy w row := ⟨rfl, rfl, rfl, Nat.le_refl _, fun _ _ _ => rfl⟩
theorem gb_alloc (h : a.grownBy w row) (o : Obj) : a.grownBy (w.alloc o) row :=
  ⟨h.os, h.tape, h.output, Nat.le_trans h.size (by simp), fun i hi hne => (Below.heap_alloc w o i (Nat.lt_of_lt_of_le hi h.size)).trans (h.block i hi hne)⟩
theorem gb_set (h : a.grownBy w (some g)) {p : Addr} (hp : p.block = g ∨ a.heap.size ≤ p.block) (u : Value) : a.grownBy (w.setCell p u) (some g) :=
  ⟨h.os, h.tape, h.output, by simpa [World.setCell] using h.size, fun i hi hne => (Below.heap_setCell w p u i (by
    rintro rfl
    rcases hp with hp | hp
    · exact hne (by rw [hp])
    · omega)).trans (h.block i hi hne)⟩
theorem gb_setNew (h : a.grownBy w row) {p : Addr} (hp : a.heap.size ≤ p.block) (u : Value) : a.grownBy (w.setCell p u) row :=
  ⟨h.os, h.tape, h.output, by simpa [World.setCell] using h.size, fun i hi hne => (Below.heap_setCell w p u i (by omega)).trans (h.block i hi hne)⟩
theorem gb_drew (h : a.grownBy w row) : a.grownBy w.drew row := ⟨h.os, h.tape, h.output, h.size, h.block⟩
theorem gb_drewN (h : a.grownBy w row) (n : Nat) : a.grownBy (w.drewN n) row := ⟨h.os, h.tape, h.output, h.size, h.block⟩
theorem gb_below (h : a.grownBy w row) (hb : Below w.heap.size w w') : a.grownBy w' row :=
  ⟨hb.os.trans h.os, hb.tape.trans h.tape, hb.output.trans h.output, Nat.le_trans h.size hb.size, fun i hi hn => (hb.block i (Nat.lt_of_lt_of_le hi h.size)).trans (h.block i hi hn)⟩
theorem gb_trans (h : a.grownBy w row) {row' : Option Nat} (k : w.grownBy w' row') (hr : row' = row ∨ ∀ g, row' = some g → a.heap.size ≤ g) : a.grownBy w' row :=
  ⟨k.os.trans h.os, k.tape.trans h.tape, k.output.trans h.output, Nat.le_trans h.size k.size, fun i hi hne => (k.block i (Nat.lt_of_lt_of_le hi h.size) (fun e => by
    rcases hr with rfl | hr
    · exact hne e
    · have := hr i e.symm; omega)).trans (h.block i hi hne)⟩
theorem gb_to_below {B : Nat} (h : a.grownBy w row) (hB : B ≤ a.heap.size) (hr : ∀ g, row = some g → B ≤ g) : Below B a w :=
  ⟨h.os, h.tape, h.output, h.size, fun k hk => h.block k (by omega) (fun e => by have := hr k e.symm; omega)⟩
theorem gb_of_below (h : Below a.heap.size a w) (row : Option Nat) : a.grownBy w row := ⟨h.os, h.tape, h.output, h.size, fun i hi _ => h.block i hi⟩
theorem Box.gb {t : TypeId} {cs : Array Value} (h : Box w g t cs) (k : w.grownBy w' row) (hne : some g ≠ row) : Box w' g t cs := (k.block g h.lt hne).trans h
theorem BoxF.gb {f : Obj → Obj} {o : Obj} (hb : w.grownBy w' row) (h : g < w.heap.size) (hne : some g ≠ row) (k : BoxF w g f o) : BoxF w' g f o := by
  unfold BoxF at k ⊢
  rw [hb.block g h hne]; exact k
theorem own_mono {base base' : Nat} {e : TypeId} {size n : Nat} {v : Value} {xs : List Value} (h : w.ownsRow base e size v n xs) (hb : base' ≤ base) : w.ownsRow base' e size v n xs := by
  obtain ⟨h1, h2⟩ := h
  refine ⟨h1, ?_⟩
  rcases h2 with h2 | ⟨g, cap, cur, hv, hg, r⟩
  · exact .inl h2
  · exact .inr ⟨g, cap, cur, hv, by omega, r⟩
theorem own_below {B base : Nat} {e : TypeId} {size n : Nat} {v : Value} {xs : List Value} (h : w.ownsRow base e size v n xs) (hb : Below B w w') (hg : ∀ g, v.ownBlock = some g → g < B) : w'.ownsRow base e size v n xs := by
  obtain ⟨h1, h2⟩ := h
  refine ⟨h1, ?_⟩
  rcases h2 with h2 | ⟨g, cap, cur, rfl, h3, h4, r⟩
  · exact .inl h2
  · exact .inr ⟨g, cap, cur, rfl, h3, (hb.block g (hg g rfl)).trans h4, r⟩
/-- .. all of what lies below the heap's end. -/
theorem own_later {base : Nat} {e : TypeId} {size n : Nat} {v : Value} {xs : List Value} (h : w.ownsRow base e size v n xs) (hb : Below w.heap.size w w') : w'.ownsRow base e size v n xs :=
  own_below h hb fun g hg => (h.lt g hg).2
/-- What lies in other blocks reads as it did. -/
theorem gb_reads (h : a.grownBy w (some g)) : (∀ b o, b < a.heap.size → b ≠ g → w.cell? ⟨b, o, none⟩ = a.cell? ⟨b, o, none⟩) ∧ (∀ b o, b < a.heap.size → b ≠ g → w.frozen? ⟨b, o, none⟩ = a.frozen? ⟨b, o, none⟩) :=
  ⟨fun b o hb hne => World.cell?_of_block (w := a) (a := ⟨b, o, none⟩) (h.block b hb (fun e => hne (by injection e))), fun b o hb hne => World.frozen?_of_block (w := a) (a := ⟨b, o, none⟩) (h.block b hb (fun e => hne (by injection e)))⟩
end
end Go.Proofs.Ytigpefjeelgfdaa

/-
  Walks of layer 1: rows of what can be had.
-/
namespace Go.Proofs.Ytigpefjeelgfdaa
open Go.RowKit

def bit (b : Bool) : Value := .int .u8 (if b then 1 else 0)
/-- The cells of a row: of each hardness whether it can be had. -/
def rowCells (p : Nat → Bool) : Array Value := ((List.range 1001).map fun j => bit (p j)).toArray

theorem rowCells_get (p : Nat → Bool) (j : Nat) : (rowCells p)[j]? = if j < 1001 then some (bit (p j)) else none := by
  simp only [rowCells, List.getElem?_toArray, List.getElem?_map, List.getElem?_range]
  by_cases h : j < 1001
  · simp [h]
  · simp [h]
theorem rowCells_set (p : Nat → Bool) (j : Nat) (b : Bool) (h : j < 1001) : (rowCells p).setIfInBounds j (bit b) = rowCells (fun i => if i = j then b else p i) := by
  apply Array.ext_getElem?
  intro i
  rw [Array.getElem?_setIfInBounds, rowCells_get, rowCells_get]
  have hs : (rowCells p).size = 1001 := by simp [rowCells]
  by_cases hij : j = i
  · subst hij
    simp [hs, h]
  · have : ¬ i = j := fun e => hij e.symm
    simp [hij, this]

set_option maxHeartbeats 400000 in
theorem fill_any (g : Nat) (t : TypeId) (p : Nat → Bool) (lo hi : Nat) (w : World) (hb : Box w g t (rowCells p)) (h1 : hi ≤ 1000) :
    Calls Try.prog 87 #[.pointer (some ⟨g, 0, none⟩), .agg #[.int .i64 lo, .int .i64 hi]] w
      fun e w' => e = .returned (.tuple #[]) ∧ w.grownBy w' (some g) ∧ Box w' g t (rowCells fun j => p j || decide (lo ≤ j ∧ j ≤ hi)) := by
  have hz := hb.lt
  go_enter Try.func87, Try.ntmps87
  go_wp2
  go_loopw [4] (fun i wr => ∃ (k : Nat), (k ≤ hi + 1 ∨ k = lo) ∧ lo ≤ k ∧ i = .int .i64 k ∧ w.grownBy wr (some g) ∧ Box wr w.heap.size 33 #[.int .i64 lo, .int .i64 hi] ∧ Box wr g t (rowCells fun j => p j || decide (lo ≤ j ∧ j < k)))
    (fun i _ => hi + 1 - (intOf i).toNat)
  case atStart =>
    have e : rowCells p = rowCells (fun j => p j || decide (lo ≤ j ∧ j < lo)) := by
      congr 1; funext j; have : ¬ (lo ≤ j ∧ j < lo) := by omega
      simp [this]
    refine ⟨lo, .inr rfl, by omega, rfl, (by repeat (first | (with_reducible assumption) | (with_reducible exact gb_refl _ _) | (with_reducible refine gb_alloc ?_ _) | ((with_reducible refine gb_set ?_ ?_ _); rotate_left; (focus (first | exact Or.inl rfl | (refine Or.inr ?_; (try simp only []); omega)))) | (with_reducible refine gb_drewN ?_ _) | (with_reducible refine gb_drew ?_) | (with_reducible refine gb_below ?_ (by assumption)))), ?_, ?_⟩
    · exact bxt
    · rw [← e]; exact bxt
  case round =>
    obtain ⟨k, hk, hk2, rfl, hg, bx, br⟩ := hrel
    obtain ⟨u1, u2, u3, u4⟩ := bx.two
    by_cases hlt : k ≤ hi
    · have c0 := br.cell k
      have c1 := br.frozen k
      rw [rowCells_get, if_pos (by omega)] at c0
      have hk3 : (k : Int) < 1001 := by omega
      have e : (rowCells fun j => p j || decide (lo ≤ j ∧ j < k)).setIfInBounds k (bit true) = rowCells (fun j => p j || decide (lo ≤ j ∧ j < k + 1)) := by
        rw [rowCells_set _ _ _ (by omega)]
        congr 1; funext j
        by_cases hj : j = k
        · subst hj
          have : lo ≤ j ∧ j < j + 1 := by omega
          simp [this]
        · have : (lo ≤ j ∧ j < k) ↔ (lo ≤ j ∧ j < k + 1) := by omega
          simp [hj, this]
      have E := Lib.hid e
      clear e
      go_wp2
      go_roundw
      case rel =>
        refine ⟨k + 1, by omega, by omega, by go_num, (by repeat (first | (with_reducible assumption) | (with_reducible exact gb_refl _ _) | (with_reducible refine gb_alloc ?_ _) | ((with_reducible refine gb_set ?_ ?_ _); rotate_left; (focus (first | exact Or.inl rfl | (refine Or.inr ?_; (try simp only []); omega)))) | (with_reducible refine gb_drewN ?_ _) | (with_reducible refine gb_drew ?_) | (with_reducible refine gb_below ?_ (by assumption)))), ?_, ?_⟩
        · exact bxt
        · rw [← E.out]; exact br.set_ k (bit true)
      case measure => simp [intOf]; omega
    · have e : (rowCells fun j => p j || decide (lo ≤ j ∧ j < k)) = rowCells (fun j => p j || decide (lo ≤ j ∧ j ≤ hi)) := by
        congr 1; funext j
        have : (lo ≤ j ∧ j < k) ↔ (lo ≤ j ∧ j ≤ hi) := by omega
        simp [this]
      have E := Lib.hid e
      clear e
      go_wp2
      go_end0
      exact ⟨rfl, hg, E.out ▸ br⟩

/-- A row that lies at block b from off on. -/
def RowAt (w : World) (b off : Nat) (p : Nat → Bool) : Prop := ∀ j, j < 1001 → w.cell? ⟨b, off + j, none⟩ = some (bit (p j))
theorem RowAt.of_box {w : World} {g : Nat} {t : TypeId} {p : Nat → Bool} (h : Box w g t (rowCells p)) : RowAt w g 0 p := by
  intro j hj
  have := h.cell (0 + j)
  rw [rowCells_get] at this
  simpa [hj] using this
theorem RowAt.on {w w' : World} {b off n : Nat} {p : Nat → Bool} (h : RowAt w b off p) (hb : Below n w w') (hB : b < n) : RowAt w' b off p :=
  fun j hj => (hb.cell (p := ⟨b, off + j, none⟩) hB).trans (h j hj)

set_option maxHeartbeats 400000 in
theorem holds_any (b off : Nat) (p : Nat → Bool) (k : Nat) (w : World) (h : RowAt w b off p) (hk : k < 1001) :
    Calls Try.prog 105 #[.pointer (some ⟨b, off, none⟩), .int .i64 k] w fun e w' => e = .returned (.bool (p k)) ∧ w = w' := by
  have hk3 : (k : Int) < 1001 := by omega
  have c := h k hk
  cases hp : p k
  · rw [hp] at c
    have c' : w.cell? ⟨b, off + k, none⟩ = some (.int .u8 0) := c
    clear c hp
    go_enter Try.func105, Try.ntmps105
    go_wp2
    go_ret
    exact ⟨rfl, rfl⟩
  · rw [hp] at c
    have c' : w.cell? ⟨b, off + k, none⟩ = some (.int .u8 1) := c
    clear c hp
    go_enter Try.func105, Try.ntmps105
    go_wp2
    go_ret
    exact ⟨rfl, rfl⟩

/-- The least place of the range that is set, or -1. -/
def FirstIs (p : Nat → Bool) (lo hi : Nat) (r : Int) : Prop :=
  (r = -1 ∧ ∀ j, lo ≤ j → j ≤ hi → p j = false) ∨ (∃ j : Nat, r = j ∧ lo ≤ j ∧ j ≤ hi ∧ p j = true ∧ ∀ i, lo ≤ i → i < j → p i = false)
def RetFirst (p : Nat → Bool) (lo hi : Nat) (B : Nat) (w : World) (e : Ending) (w' : World) : Prop := ∃ r : Int, e = .returned (.int .i64 r) ∧ FirstIs p lo hi r ∧ Below B w w'
def NoneBefore (p : Nat → Bool) (lo k : Nat) : Prop := ∀ i, lo ≤ i → i < k → p i = false

set_option maxHeartbeats 400000 in
theorem first_any (b off : Nat) (p : Nat → Bool) (lo hi : Nat) (w : World) (h : RowAt w b off p) (hb : b < w.heap.size) (h1 : hi ≤ 1000) :
    Calls Try.prog 99 #[.pointer (some ⟨b, off, none⟩), .agg #[.int .i64 lo, .int .i64 hi]] w (RetFirst p lo hi w.heap.size w) := by
  go_enter Try.func99, Try.ntmps99
  go_wp2
  go_step3
  go_wp2
  go_step3
  go_wp2
  go_loopw [5, 6] (fun f i wr => ∃ (k : Nat), f = .int .i64 (-1) ∧ lo ≤ k ∧ (k ≤ hi + 1 ∨ k = lo) ∧ i = .int .i64 k ∧ NoneBefore p lo k ∧ Below w.heap.size w wr ∧ Box wr w.heap.size 33 #[.int .i64 lo, .int .i64 hi])
    (fun _ i _ => hi + 1 - (intOf i).toNat)
  case atStart =>
    refine ⟨lo, rfl, by omega, .inr rfl, rfl, fun i h1 h2 => absurd h2 (by omega), bel, ?_⟩
    exact bxt
  case round =>
    obtain ⟨k, rfl, hk, hk2, rfl, hn, hbl, bx⟩ := hrel
    obtain ⟨u1, u2, u3, u4⟩ := bx.two
    by_cases hlt : k ≤ hi
    · have hr : RowAt wr b off p := h.on hbl hb
      rcases hp : p k
      · have P := Lib.hid hp
        clear hp
        go_wp2_with (go_at_call 105; refine (holds_any b off p k _ hr (by omega)).mono ?_; rintro e w' ⟨rfl, rfl⟩; rw [P.out])
        go_roundw
        case rel =>
          refine ⟨k + 1, rfl, by omega, by omega, by go_num, fun i h1 h2 => ?_, hbl, bx⟩
          rcases Nat.lt_or_ge i k with h3 | h3
          · exact hn i h1 h3
          · obtain rfl : i = k := by omega
            exact P.out
        case measure => simp [intOf]; omega
      · have P := Lib.hid hp
        clear hp
        go_wp2_with (go_at_call 105; refine (holds_any b off p k _ hr (by omega)).mono ?_; rintro e w' ⟨rfl, rfl⟩; rw [P.out])
        rw [Exit.noGoto_ret]
        go_ret
        exact ⟨k, rfl, .inr ⟨k, rfl, hk, hlt, P.out, hn⟩, hbl⟩
    · go_wp2
      rw [Exit.noGoto_ret]
      go_ret
      exact ⟨-1, rfl, .inl ⟨rfl, fun j h1 h2 => hn j h1 (by omega)⟩, hbl⟩

def meetsB (p : Nat → Bool) (lo hi : Nat) : Bool := (List.range (hi + 1)).any fun j => decide (lo ≤ j) && p j
theorem meetsB_iff {p : Nat → Bool} {lo hi : Nat} : meetsB p lo hi = true ↔ ∃ j, lo ≤ j ∧ j ≤ hi ∧ p j = true := by
  simp only [meetsB, List.any_eq_true, List.mem_range, Bool.and_eq_true, decide_eq_true_eq]
  exact ⟨fun ⟨j, h1, h2, h3⟩ => ⟨j, h2, by omega, h3⟩, fun ⟨j, h1, h2, h3⟩ => ⟨j, by omega, h1, h3⟩⟩
theorem meets_of_first {p : Nat → Bool} {lo hi : Nat} {r : Int} (h : FirstIs p lo hi r) : (r != -1) = meetsB p lo hi := by
  rcases h with ⟨rfl, h⟩ | ⟨j, rfl, h1, h2, h3, _⟩
  · have : meetsB p lo hi = false := by
      rw [← Bool.not_eq_true, meetsB_iff]
      rintro ⟨j, h1, h2, h3⟩
      rw [h j h1 h2] at h3; cases h3
    simp [this]
  · have : meetsB p lo hi = true := meetsB_iff.2 ⟨j, h1, h2, h3⟩
    rw [this]; first | (simp; done) | (simp; omega)

set_option maxHeartbeats 400000 in
theorem meets_any (b off : Nat) (p : Nat → Bool) (lo hi : Nat) (w : World) (h : RowAt w b off p) (hb : b < w.heap.size) (h1 : hi ≤ 1000) :
    Calls Try.prog 91 #[.pointer (some ⟨b, off, none⟩), .agg #[.int .i64 lo, .int .i64 hi]] w fun e w' => e = .returned (.bool (meetsB p lo hi)) ∧ Below w.heap.size w w' := by
  go_enter Try.func91, Try.ntmps91
  go_wp2_with (go_at_call 99; refine (first_any b off p lo hi _ (h.on (n := w.heap.size) bel hb) (by (focus (first | omega | (simp only [World.size_alloc, World.size_setCell, World.size_drew, World.heap_drewN]; first | done | omega)))) h1).mono ?_; rintro e w1 ⟨r, rfl, hr, hb1⟩)
  go_ret
  exact ⟨ret_bool (meets_of_first hr), bel⟩
end Go.Proofs.Ytigpefjeelgfdaa

/-
  Walks of layer 1: the ends of a row.
-/
namespace Go.Proofs.Ytigpefjeelgfdaa
open Go.RowKit

/-- The ends of what is set ahead of k: 1000 and 0, as long as nothing is. -/
def EndsTo (p : Nat → Bool) (k lo hi : Nat) : Prop :=
  ((∀ j, j < k → p j = false) ∧ lo = 1000 ∧ hi = 0) ∨ (p lo = true ∧ lo < k ∧ p hi = true ∧ hi < k ∧ ∀ j, j < k → p j = true → lo ≤ j ∧ j ≤ hi)
theorem EndsTo.zero (p : Nat → Bool) : EndsTo p 0 1000 0 := .inl ⟨fun j h => absurd h (by omega), rfl, rfl⟩
theorem EndsTo.no {p : Nat → Bool} {k lo hi : Nat} (h : EndsTo p k lo hi) (hk : p k = false) : EndsTo p (k + 1) lo hi := by
  rcases h with ⟨h1, h2, h3⟩ | ⟨h1, h2, h3, h4, h5⟩
  · refine .inl ⟨fun j hj => ?_, h2, h3⟩
    rcases Nat.lt_or_ge j k with h | h
    · exact h1 j h
    · obtain rfl : j = k := by omega
      exact hk
  · refine .inr ⟨h1, by omega, h3, by omega, fun j hj hp => ?_⟩
    rcases Nat.lt_or_ge j k with h | h
    · exact h5 j h hp
    · obtain rfl : j = k := by omega
      rw [hk] at hp; cases hp
theorem EndsTo.yes {p : Nat → Bool} {k lo hi : Nat} (h : EndsTo p k lo hi) (hk : p k = true) (h9 : k ≤ 1000) : EndsTo p (k + 1) (min lo k) k := by
  rcases h with ⟨h1, h2, h3⟩ | ⟨h1, h2, h3, h4, h5⟩
  · subst h2
    have e : min 1000 k = k := by omega
    rw [e]
    refine .inr ⟨hk, by omega, hk, by omega, fun j hj hp => ?_⟩
    rcases Nat.lt_or_ge j k with h | h
    · rw [h1 j h] at hp; cases hp
    · omega
  · have e : min lo k = lo := by omega
    rw [e]
    refine .inr ⟨h1, by omega, hk, by omega, fun j hj hp => ?_⟩
    rcases Nat.lt_or_ge j k with h | h
    · have := h5 j h hp; omega
    · omega
def RetEnds (p : Nat → Bool) (w : World) (e : Ending) (w' : World) : Prop := ∃ lo hi : Nat, e = .returned (.agg #[.int .i64 lo, .int .i64 hi]) ∧ EndsTo p 1001 lo hi ∧ Below w.heap.size w w'

set_option maxHeartbeats 400000 in
theorem rowEnds_any (b off : Nat) (p : Nat → Bool) (w : World) (h : RowAt w b off p) (hb : b < w.heap.size) :
    Calls Try.prog 93 #[.pointer (some ⟨b, off, none⟩)] w (RetEnds p w) := by
  obtain ⟨N, hN⟩ : ∃ N : Nat, Hid (N = 1001) := ⟨1001, rfl⟩
  go_enter Try.func93, Try.ntmps93
  go_wp2
  go_loopw [4, 6] (fun _ i wr => ∃ (k lo hi : Nat), k ≤ N ∧ i = .int .i64 k ∧ EndsTo p k lo hi ∧ Below w.heap.size w wr ∧ Box wr (w.heap.size + 1) 33 #[.int .i64 lo, .int .i64 hi] ∧ Box wr w.heap.size 33 #[.int .i64 0, .int .i64 0])
    (fun _ i _ => N - (intOf i).toNat)
  case atStart =>
    refine ⟨0, 1000, 0, by omega, rfl, EndsTo.zero p, bel, ?_, ?_⟩
    all_goals exact bxt
  case round =>
    obtain ⟨k, lo, hi, hk, rfl, he, hbl, bx, bz⟩ := hrel
    obtain ⟨u1, u2, u3, u4⟩ := bx.two
    obtain ⟨t1, t2, t3, t4⟩ := bz.two
    have hz := bx.lt
    by_cases hlt : k < N
    · have hr : RowAt wr b off p := h.on hbl hb
      have hlt2 : (k : Int) < 1001 := by have := hN.out; omega
      have hlt3 : k < 1001 := by have := hN.out; omega
      have HL := Lib.hid hlt3
      clear hlt3
      rcases hp : p k
      · have P := Lib.hid hp
        clear hp
        go_wp2_with (go_at_call 105; refine (holds_any b off p k _ hr HL.out).mono ?_; rintro e w' ⟨rfl, rfl⟩; rw [P.out])
        go_roundw
        case rel => exact ⟨k + 1, lo, hi, by omega, by go_num, he.no P.out, hbl, bx, bz⟩
        case measure => simp [intOf]; omega
      · have P := Lib.hid hp
        clear hp
        have hy := he.yes P.out (by have := HL.out; omega)
        by_cases q : k < lo
        · have hy' : Hid (EndsTo p (k + 1) k k) := by rw [show min lo k = k from by omega] at hy; exact hy
          clear hy
          go_wp2_with (go_at_call 105; refine (holds_any b off p k _ hr HL.out).mono ?_; rintro e w' ⟨rfl, rfl⟩; rw [P.out])
          go_roundw
          case rel =>
            refine ⟨k + 1, k, k, by omega, by go_num, hy'.out, bel, ?_, ?_⟩
            all_goals exact bxt
          case measure => simp [intOf]; omega
        · have hy' : Hid (EndsTo p (k + 1) lo k) := by rw [show min lo k = lo from by omega] at hy; exact hy
          clear hy
          go_wp2_with (go_at_call 105; refine (holds_any b off p k _ hr HL.out).mono ?_; rintro e w' ⟨rfl, rfl⟩; rw [P.out])
          go_roundw
          case rel =>
            refine ⟨k + 1, lo, k, by omega, by go_num, hy'.out, bel, ?_, ?_⟩
            all_goals exact bxt
          case measure => simp [intOf]; omega
    · have hlt2 : ¬ (k : Int) < 1001 := by have := hN.out; omega
      have he' : Hid (EndsTo p 1001 lo hi) := by have h1 : k = 1001 := by have := hN.out; omega
                                                 rw [← h1]; exact he
      go_wp2
      refine bodyPost_ret (v := .agg #[.int .i64 lo, .int .i64 hi]) (by simp [results, Try.results93, go_sem, *]) rfl ?_
      exact ⟨lo, hi, rfl, he'.out, bel⟩
end Go.Proofs.Ytigpefjeelgfdaa

/-
  A region that draws its order: all operations but the last few read, or call what makes memory of its own (quiet in the class of the later worlds); the last few come one behind the other. No program is named here.
-/
namespace Go.Proofs.Ytigpefjeelgfdaa
open Go.RowKit

section
variable {P : Program} {ops : Array Oper} {md : Region.Mode} {C : World → Prop}

/-- Whatever order the head is taken in; behind it L. -/
def headQ (P : Program) (md : Region.Mode) (ops : Array Oper) (C : World → Prop) (n : Nat) (L : Array Bool → Act → Prop) : Nat → Array Bool → Act → Prop
  | 0, listed, a => L listed a
  | f + 1, listed, a =>
    Region.ready md ops listed ≠ [] ∧ ∀ i ∈ Region.ready md ops listed, i < n ∧ qOp P ops C i (headQ P md ops C n L f (listed.setIfInBounds i true)) a

theorem any_of_headQ {n g : Nat} {L : Array Bool → Act → Prop} {Q' : Exit → Act → World → Prop} (hL : ∀ listed a w, C w → L listed a → wpAny P md ops Q' g listed a w) :
    ∀ (f : Nat) (listed : Array Bool) (a : Act) (w : World), C w → headQ P md ops C n L f listed a → wpAny P md ops Q' (f + g) listed a w
  | 0, listed, a, w, hw, h => by rw [Nat.zero_add]; exact hL _ _ _ hw h
  | f + 1, listed, a, w, hw, h => by
    rw [show f + 1 + g = (f + g) + 1 by omega]
    exact ⟨fun h0 => absurd h0 h.1, fun i hi => wpOp_of_qOp hw (fun a' w' hw' h' => any_of_headQ hL f _ a' w' hw' h') (h.2 i hi).2⟩

theorem headQ_first {n i : Nat} {oi : Oper} {v : Value} {L : Array Bool → Act → Prop} (hi : ops[i]? = some oi) (hsel : ∀ (j : Nat) (o : Oper) cs b, ops[j]? = some o → o.op ≠ .select cs b)
    (hs : Region.sinkB md ops n = true) (hc : Region.chainB md ops n = true) (hn : n < ops.size) (hin : i < n)
    (hdone : ∀ listed a, L listed a → ∀ j ∈ Region.ready md ops listed, n ≤ j) :
    ∀ (f : Nat) (listed : Array Bool) (a : Act), HeadInv md ops n listed →
      (∀ j oj, ops[j]? = some oj → j ≠ i → listed.getD j true = false → (∀ e ∈ oj.after, Region.binds md e = true → e.on ≠ i) → oi.apart ops oj = true) →
      i ∈ Region.ready md ops listed → YieldsIn P ops C oi v a →
      headQ P md ops C n L f (listed.setIfInBounds i true) (a.put oi.dst v) → headQ P md ops C n L (f + 1) listed a := by
  have early : ∀ (listed : Array Bool), HeadInv md ops n listed → i ∈ Region.ready md ops listed → ∀ j ∈ Region.ready md ops listed, j < n := by
    intro listed inv hr j hj
    rcases Nat.lt_or_ge j n with h | h
    · exact h
    · exact absurd hj (tail_waits hs hc hn inv _ i rfl hin (mem_ready.1 hr).1 j h)
  intro f
  induction f with
  | zero =>
    intro listed a inv _ hr hy H
    refine ⟨fun h => (by rw [h] at hr; cases hr), fun j hj => ?_⟩
    have hjn := early listed inv hr j hj
    refine ⟨hjn, ?_⟩
    by_cases hji : j = i
    · subst hji; exact hy.qOp hi H
    · have := hdone _ _ H j (ready_mono hj hji)
      omega
  | succ f ih =>
    intro listed a inv hfree hr hy H
    have hun := (mem_ready.1 hr).1
    refine ⟨fun h => (by rw [h] at hr; cases hr), fun j hj => ?_⟩
    have hjn := early listed inv hr j hj
    refine ⟨hjn, ?_⟩
    by_cases hji : j = i
    · subst hji; exact hy.qOp hi H
    · have h1 := (H.2 j (ready_mono hj hji)).2
      obtain ⟨hjun, oj, hoj, hall⟩ := mem_ready.1 hj
      have hnot : ∀ e ∈ oj.after, Region.binds md e = true → e.on ≠ i := fun e he hb heq => by
        have h1 := hall e he hb
        rw [heq, getD_both hun] at h1
        cases h1
      have h2 := qOp_put hoj (hfree j oj hoj hji hjun hnot) (fun cs b => hsel i oi cs b hi) (fun cs b => hsel j oj cs b hoj) hy h1
      have hfree' : ∀ k ok, ops[k]? = some ok → k ≠ i → (listed.setIfInBounds j true).getD k true = false →
          (∀ e ∈ ok.after, Region.binds md e = true → e.on ≠ i) → oi.apart ops ok = true := fun k ok hk hki hun hno => by
        refine hfree k ok hk hki ?_ hno
        by_cases hjk : j = k
        · subst hjk; exact hjun
        · rw [getD_set_ne true hjk] at hun; exact hun
      refine qOp_mono (fun a' h3 => ih (listed.setIfInBounds j true) a' (inv.set hj hjn) hfree' (ready_mono hr (Ne.symm hji)) h3.1 ?_) h2
      rw [Array.setIfInBounds_comm _ _ hji]
      exact h3.2

theorem headQ_lex {n g : Nat} {Lq : Act → Prop} (hsel : Region.noSelect ops = true) (hs : Region.sinkB md ops n = true) (hc : Region.chainB md ops n = true) (hn : n < ops.size) :
    ∀ (l : List Oper) (k : Nat) (listed : Array Bool) (a : Act), (∀ j, j < l.length → l[j]? = ops[k + j]?) → k + l.length = n → HeadInv md ops n listed →
    Region.lexHead md ops g l.length k listed = true → wpQuiet P ops C Lq l a →
    headQ P md ops C n (fun listed' a' => Region.seqB md ops g n listed' = true ∧ Lq a') l.length listed a
  | [], k, listed, a, _, hk, _, hB, h => by
    have : k = n := by simpa using hk
    subst this
    exact ⟨by simpa [Region.lexHead] using hB, h⟩
  | o :: l, k, listed, a, hl, hk, inv, hB, h => by
    have h0 : ops[k]? = some o := by simpa using (hl 0 (by simp)).symm
    simp only [List.length_cons, Region.lexHead, Bool.and_eq_true] at hB
    obtain ⟨⟨hr, hf⟩, hB'⟩ := hB
    have hkn : k < n := by simp only [List.length_cons] at hk; omega
    have hr' : k ∈ Region.ready md ops listed := by simpa using hr
    have hst : qOp P ops C k (wpQuiet P ops C Lq l) a := by unfold qOp; simp only [h0]; exact h
    obtain ⟨v, hy, hK⟩ := yieldsIn_of_qOp h0 hst
    exact headQ_first h0 (Region.noSelect_spec hsel) hs hc hn hkn (fun listed' a' hL => seqB_ready hL.1) l.length listed a inv (Region.free_spec h0 hf) hr' hy
      (headQ_lex hsel hs hc hn l (k + 1) _ _ (fun j hj => by have := hl (j + 1) (by simp; omega); simpa [Nat.add_assoc, Nat.add_comm 1 j] using this) (by simp only [List.length_cons] at hk; omega) (inv.set hr' hkn) hB' hK)
end

/-- The first n operations quietly, in the class of the worlds that hold all that w held; then the others, in their order. -/
theorem wp_region_later_tail {P : Program} {id : Nat} {Q : Exit → Act → World → Prop} {a : Act} {w : World} {l : List Oper} (n : Nat) (hm : P.follows .mixedOrders = true) (hB : Region.lexTailB .any l.toArray n = true)
    (h : wpQuiet P l.toArray (fun w' => ∃ x : LaterW w, w' = x.world) (fun a' => ∀ w', (∃ x : LaterW w, w' = x.world) → wpList P l.toArray Q (l.drop n) a' w') (l.take n) a) : (Code.region id l.toArray true).wp P Q a w := by
  simp only [Region.lexTailB, Bool.and_eq_true, decide_eq_true_eq] at hB
  obtain ⟨⟨⟨⟨hsel, hn⟩, hs⟩, hc⟩, hlex⟩ := hB
  have hn' : n < l.length := by simpa using hn
  have htl : (l.take n).length = n := by simp; omega
  have hdl : (l.drop n).length = l.toArray.size - n := by simp
  have inv0 : HeadInv .any l.toArray n (Array.replicate l.toArray.size false) :=
    ⟨by simp, fun j oj _ hl => (by rw [getD_replicate_false] at hl; cases hl), fun t _ ht => getD_in (by simpa using ht) (getD_replicate_false _ _)⟩
  have H := headQ_lex (md := .any) (g := l.toArray.size - n) hsel hs hc hn (l.take n) 0 _ a (fun j hj => by
    have hj' : j < n := by rw [htl] at hj; exact hj
    simp [hj']) (by simpa using htl) inv0 (by rw [htl]; exact hlex) h
  refine wp_region_any hm ?_
  have := any_of_headQ (Q' := Q) (g := l.toArray.size - n) (fun listed a' w' hw' hL => by
    have := wpAny_of_seq (md := .any) (Q' := Q) (l.drop n) n listed a' w' (fun j => by simp [List.getElem?_drop]) (by rw [hdl]; exact hL.1) (hL.2 w' hw')
    rwa [hdl] at this) _ _ _ _ ⟨⟨w.drew, (Below.refl _ _).drew⟩, rfl⟩ H
  rw [htl, show n + (l.toArray.size - n) = l.toArray.size by omega] at this
  exact this
end Go.Proofs.Ytigpefjeelgfdaa

/-
  Walks of layer 1: a list with one element more, and a list taken over.
-/
namespace Go.Proofs.Ytigpefjeelgfdaa
open Go.RowKit

theorem infoInt64 : (Try.prog.info? 2).map (fun i => (i.zero, i.size, i.bytes)) = some (some (.int .i64 0), 1, 8) := by kernel_rfl

theorem addBlock (a : Addr) (n : Nat) : (a.add n).block = a.block := by unfold Addr.add; split <;> rfl
theorem cells_alloc {w : World} {o : Obj} {ad : Addr} {xs : List Value} (h : ∀ j u, xs[j]? = some u → w.cell? (ad.add j) = some u) (hlt : ad.block < w.heap.size) :
    ∀ b, some ad = some b → ∀ j u, xs[j]? = some u → (w.alloc o).cell? (b.add j) = some u := by
  intro b hb j u hu
  injection hb with hb
  subst hb
  exact (World.cell?_alloc_lt w o _ (by rw [addBlock]; exact hlt)).trans (h j u hu)
/-- A list of the call's own with one element more: it lies in new memory. -/
def RetGrown (e : TypeId) (size n : Nat) (xs : List Value) (w : World) (en : Ending) (w' : World) : Prop :=
  ∃ v, en = .returned v ∧ w'.ownsRow w.heap.size e size v n xs ∧ Below w.heap.size w w'

set_option maxHeartbeats 400000 in
theorem grownInt64_any (base n : Nat) (v : Value) (xs : List Value) (y : Int) (w : World) (h : w.ownsRow base 2 1 v n xs) (hn : Hid (n ≤ 1000)) :
    Calls Try.prog 70 #[v, .int .i64 y] w (RetGrown 2 1 (n + 1) (xs ++ [.int .i64 y]) w) := by
  obtain ⟨i0, hi, hz0, hz1, hz2⟩ := info_parts infoInt64
  have hlen := Lib.hid h.1
  rcases h.2 with ⟨rfl, rfl⟩ | ⟨g, cap, cur, rfl, hb, hg, hnc, hcm, hcs, htake⟩
  · have hx : xs = [] := List.eq_nil_of_length_eq_zero (by have := hlen.out; omega)
    subst hx
    clear h
    go_enter Try.func70, Try.ntmps70
    go_wp2_with (at_builtin; go_loud (refine wpList_append_grows _ rfl (.tmp 10) (.tmp 12) _ rfl 2 i0 (.int .i64 0) 1 8 Try.underlying43 hi hz0 hz1 hz2 rfl (by decide) none 0 0 [] rfl (fun _ => ⟨rfl, rfl⟩) (by simp) (by simp) ⟨w.heap.size, 0, none⟩ 1 1 [.int .i64 y] rfl rfl (cell_one_new _ _ _) (by simp [Value.oneCell']) (by omega) (by simp [maxLen]) (by omega) ?_; intro v' w1 hown1 hgrow1))
    go_ret
    refine ⟨v', rfl, own_mono (by simpa using hown1) (by simp), ?_⟩
    exact Below.trans (b := w.alloc (.cells #[.int .i64 y] 2)) bel (gb_to_below hgrow1 (by simp) (by simp))
  · have hold := Lib.hid (h.cells (g := g) rfl)
    have hlt : g < w.heap.size := (Array.getElem?_eq_some_iff.1 hg).1
    have HC := Lib.hid hcm
    have HT := Lib.hid htake
    have HS := Lib.hid hcs
    have HH := Lib.hid h
    have HG := Lib.hid hg
    clear hcm htake hcs h hg
    go_enter Try.func70, Try.ntmps70
    go_wp2_with (at_builtin; go_loud (refine wpList_append_grows _ rfl (.tmp 10) (.tmp 12) _ rfl 2 i0 (.int .i64 0) 1 8 Try.underlying43 hi hz0 hz1 hz2 rfl (by decide) (some ⟨g, 0, none⟩) n n xs rfl (by simp) hlen.out (cells_alloc hold.out hlt) ⟨w.heap.size, 0, none⟩ 1 1 [.int .i64 y] rfl rfl (cell_one_new _ _ _) (by simp [Value.oneCell']) (by omega) (by have := hn.out; simp only [maxLen]; omega) (by have := hn.out; omega) ?_; intro v' w1 hown1 hgrow1))
    go_ret
    refine ⟨v', rfl, own_mono (by simpa using hown1) (by simp), ?_⟩
    exact Below.trans (b := w.alloc (.cells #[.int .i64 y] 2)) bel (gb_to_below hgrow1 (by simp) (by simp))
end Go.Proofs.Ytigpefjeelgfdaa

/-
  Walks of layer 1: a list of ranges with one more.
-/
namespace Go.Proofs.Ytigpefjeelgfdaa
open Go.RowKit

theorem infoRange : (Try.prog.info? 33).map (fun i => (i.zero, i.size, i.bytes)) = some (some (.agg #[.int .i64 0, .int .i64 0]), 2, 16) := by kernel_rfl

theorem cells_two_new (w : World) (t : TypeId) (a b : Value) (g : Nat) (h : g = w.heap.size) : ∀ j u, [a, b][j]? = some u → (w.alloc (.cells #[a, b] t)).cell? ((⟨g, 0, none⟩ : Addr).add j) = some u := by
  subst h
  intro j u hu
  have hb : Box (w.alloc (.cells #[a, b] t)) w.heap.size t #[a, b] := Box.new' rfl
  rw [Addr.add_lit, hb.cell]
  simpa using hu

theorem cells_later {w w' : World} {ad : Addr} {xs : List Value} (h : ∀ j u, xs[j]? = some u → w.cell? (ad.add j) = some u) (hlt : ad.block < w.heap.size) (hb : Below w.heap.size w w') :
    ∀ b, some ad = some b → ∀ j u, xs[j]? = some u → w'.cell? (b.add j) = some u := by
  intro b he j u hu
  injection he with he
  subst he
  exact (hb.cell (p := ad.add j) (by rw [addBlock]; exact hlt)).trans (h j u hu)

set_option maxHeartbeats 400000 in
theorem grownRange_any (base n : Nat) (v : Value) (xs : List Value) (lo hi : Int) (w : World) (h : w.ownsRow base 33 2 v n xs) (hn : Hid (n ≤ 1000)) :
    Calls Try.prog 92 #[v, .agg #[.int .i64 lo, .int .i64 hi]] w (RetGrown 33 2 (n + 1) (xs ++ [.int .i64 lo, .int .i64 hi]) w) := by
  obtain ⟨i0, hi', hz0, hz1, hz2⟩ := info_parts infoRange
  have hlen := Lib.hid h.1
  rcases h.2 with ⟨rfl, rfl⟩ | ⟨g, cap, cur, rfl, hb, hg, hnc, hcm, hcs, htake⟩
  · have hx : xs = [] := List.eq_nil_of_length_eq_zero (by have := hlen.out; omega)
    subst hx
    clear h
    go_enter Try.func92, Try.ntmps92
    go_wp2_with fail
    go_region_law (refine step_append_grows rfl (.tmp 10) (.tmp 12) 22 rfl 33 i0 _ 2 16 Try.underlying22 hi' hz0 hz1 hz2 rfl (by decide) none 0 0 [] (by simp [Act.eval, Act.put]) (fun _ => ⟨rfl, rfl⟩) (by simp) (by simp) ⟨w.heap.size + 1, 0, none⟩ 1 1 [.int .i64 lo, .int .i64 hi] (by simp [Act.eval, Act.put]) rfl (cells_two_new _ _ _ _ _ (by simp)) (by simp [Value.oneCell']) (by omega) (by have := hn.out; simp [maxLen]; try omega) (by have := hn.out; omega) ?_; intro v' w1 hown1 hgrow1)
    go_wp2_with fail
    go_ret
    refine ⟨v', rfl, own_mono hown1 (by simp; try omega), ?_⟩
    refine Below.trans ?_ (gb_to_below (B := w.heap.size) hgrow1 (by simp; try omega) (by simp))
    exact bel
  · have hold := Lib.hid (h.cells (g := g) rfl)
    have hlt : g < w.heap.size := (Array.getElem?_eq_some_iff.1 hg).1
    have HC := Lib.hid hcm
    have HT := Lib.hid htake
    have HS := Lib.hid hcs
    have HH := Lib.hid h
    have HG := Lib.hid hg
    clear hcm htake hcs h hg
    go_enter Try.func92, Try.ntmps92
    go_wp2_with fail
    go_region_law (refine step_append_grows rfl (.tmp 10) (.tmp 12) 22 rfl 33 i0 _ 2 16 Try.underlying22 hi' hz0 hz1 hz2 rfl (by decide) (some ⟨g, 0, none⟩) n n xs (by simp [Act.eval, Act.put]) (by simp) hlen.out (cells_later hold.out hlt bel) ⟨w.heap.size + 1, 0, none⟩ 1 1 [.int .i64 lo, .int .i64 hi] (by simp [Act.eval, Act.put]) rfl (cells_two_new _ _ _ _ _ (by simp)) (by simp [Value.oneCell']) (by omega) (by have := hn.out; simp [maxLen]; try omega) (by have := hn.out; omega) ?_; intro v' w1 hown1 hgrow1)
    go_wp2_with fail
    go_ret
    refine ⟨v', rfl, own_mono hown1 (by simp; try omega), ?_⟩
    refine Below.trans ?_ (gb_to_below (B := w.heap.size) hgrow1 (by simp; try omega) (by simp))
    exact bel
end Go.Proofs.Ytigpefjeelgfdaa

/-
  Walks of layer 1: more lists with one element more.
-/
namespace Go.Proofs.Ytigpefjeelgfdaa
open Go.RowKit
theorem infoStretch : (Try.prog.info? 141).map (fun i => (i.zero, i.size, i.bytes)) = some (some (.agg #[.int .i64 0, .int .i64 0, .int .i64 0, .int .i64 0]), 4, 32) := by kernel_rfl
theorem infoInts : (Try.prog.info? 40).map (fun i => (i.zero, i.size, i.bytes)) = some (some (.slice none 0 0), 1, 24) := by kernel_rfl
theorem infoInt : (Try.prog.info? 3).map (fun i => (i.zero, i.size, i.bytes)) = some (some (.int .i64 0), 1, 8) := by kernel_rfl

set_option maxHeartbeats 400000 in
theorem grownInt_any (base n : Nat) (v : Value) (xs : List Value) (y : Int) (w : World) (h : w.ownsRow base 3 1 v n xs) (hn : Hid (n ≤ 1000)) :
    Calls Try.prog 81 #[v, .int .i64 y] w (RetGrown 3 1 (n + 1) (xs ++ [.int .i64 y]) w) := by
  obtain ⟨i0, hi, hz0, hz1, hz2⟩ := info_parts infoInt
  have hlen := Lib.hid h.1
  rcases h.2 with ⟨rfl, rfl⟩ | ⟨g, cap, cur, rfl, hb, hg, hnc, hcm, hcs, htake⟩
  · have hx : xs = [] := List.eq_nil_of_length_eq_zero (by have := hlen.out; omega)
    subst hx
    clear h
    go_enter Try.func81, Try.ntmps81
    go_wp2_with (at_builtin; (refine wpList_append_grows _ rfl (.tmp 10) (.tmp 12) _ rfl 3 i0 (.int .i64 0) 1 8 Try.underlying40 hi hz0 hz1 hz2 rfl (by decide) none 0 0 [] rfl (fun _ => ⟨rfl, rfl⟩) (by simp) (by simp) ⟨w.heap.size, 0, none⟩ 1 1 [.int .i64 y] rfl rfl (cell_one_new _ _ _) (by simp [Value.oneCell']) (by omega) (by simp [maxLen]) (by omega) ?_; intro v' w1 hown1 hgrow1))
    go_ret
    refine ⟨v', rfl, own_mono (by simpa using hown1) (by simp), ?_⟩
    exact Below.trans (b := w.alloc (.cells #[.int .i64 y] 3)) bel (gb_to_below hgrow1 (by simp) (by simp))
  · have hold := Lib.hid (h.cells (g := g) rfl)
    have hlt : g < w.heap.size := (Array.getElem?_eq_some_iff.1 hg).1
    have HC := Lib.hid hcm
    have HT := Lib.hid htake
    have HS := Lib.hid hcs
    have HH := Lib.hid h
    have HG := Lib.hid hg
    clear hcm htake hcs h hg
    go_enter Try.func81, Try.ntmps81
    go_wp2_with (at_builtin; (refine wpList_append_grows _ rfl (.tmp 10) (.tmp 12) _ rfl 3 i0 (.int .i64 0) 1 8 Try.underlying40 hi hz0 hz1 hz2 rfl (by decide) (some ⟨g, 0, none⟩) n n xs rfl (by simp) hlen.out (cells_alloc hold.out hlt) ⟨w.heap.size, 0, none⟩ 1 1 [.int .i64 y] rfl rfl (cell_one_new _ _ _) (by simp [Value.oneCell']) (by omega) (by have := hn.out; simp only [maxLen]; omega) (by have := hn.out; omega) ?_; intro v' w1 hown1 hgrow1))
    go_ret
    refine ⟨v', rfl, own_mono (by simpa using hown1) (by simp), ?_⟩
    exact Below.trans (b := w.alloc (.cells #[.int .i64 y] 3)) bel (gb_to_below hgrow1 (by simp) (by simp))
set_option maxHeartbeats 400000 in
theorem grownInts_any (base n : Nat) (v : Value) (xs : List Value) (ya : Option Addr) (yn yc : Nat) (w : World) (h : w.ownsRow base 40 1 v n xs) (hn : Hid (n ≤ 1000)) :
    Calls Try.prog 78 #[v, .slice ya yn yc] w (RetGrown 40 1 (n + 1) (xs ++ [.slice ya yn yc]) w) := by
  obtain ⟨i0, hi, hz0, hz1, hz2⟩ := info_parts infoInts
  have hlen := Lib.hid h.1
  rcases h.2 with ⟨rfl, rfl⟩ | ⟨g, cap, cur, rfl, hb, hg, hnc, hcm, hcs, htake⟩
  · have hx : xs = [] := List.eq_nil_of_length_eq_zero (by have := hlen.out; omega)
    subst hx
    clear h
    go_enter Try.func78, Try.ntmps78
    go_wp2_with (at_builtin; (refine wpList_append_grows _ rfl (.tmp 10) (.tmp 12) _ rfl 40 i0 (.slice none 0 0) 1 24 Try.underlying56 hi hz0 hz1 hz2 rfl (by decide) none 0 0 [] rfl (fun _ => ⟨rfl, rfl⟩) (by simp) (by simp) ⟨w.heap.size, 0, none⟩ 1 1 [.slice ya yn yc] rfl rfl (cell_one_new _ _ _) (by simp [Value.oneCell']) (by omega) (by simp [maxLen]) (by omega) ?_; intro v' w1 hown1 hgrow1))
    go_ret
    refine ⟨v', rfl, own_mono (by simpa using hown1) (by simp), ?_⟩
    exact Below.trans (b := w.alloc (.cells #[.slice ya yn yc] 40)) bel (gb_to_below hgrow1 (by simp) (by simp))
  · have hold := Lib.hid (h.cells (g := g) rfl)
    have hlt : g < w.heap.size := (Array.getElem?_eq_some_iff.1 hg).1
    have HC := Lib.hid hcm
    have HT := Lib.hid htake
    have HS := Lib.hid hcs
    have HH := Lib.hid h
    have HG := Lib.hid hg
    clear hcm htake hcs h hg
    go_enter Try.func78, Try.ntmps78
    go_wp2_with (at_builtin; (refine wpList_append_grows _ rfl (.tmp 10) (.tmp 12) _ rfl 40 i0 (.slice none 0 0) 1 24 Try.underlying56 hi hz0 hz1 hz2 rfl (by decide) (some ⟨g, 0, none⟩) n n xs rfl (by simp) hlen.out (cells_alloc hold.out hlt) ⟨w.heap.size, 0, none⟩ 1 1 [.slice ya yn yc] rfl rfl (cell_one_new _ _ _) (by simp [Value.oneCell']) (by omega) (by have := hn.out; simp only [maxLen]; omega) (by have := hn.out; omega) ?_; intro v' w1 hown1 hgrow1))
    go_ret
    refine ⟨v', rfl, own_mono (by simpa using hown1) (by simp), ?_⟩
    exact Below.trans (b := w.alloc (.cells #[.slice ya yn yc] 40)) bel (gb_to_below hgrow1 (by simp) (by simp))
theorem cells_four_new (w : World) (t : TypeId) (a b c d : Value) (g : Nat) (h : g = w.heap.size) : ∀ j u, [a, b, c, d][j]? = some u → (w.alloc (.cells #[a, b, c, d] t)).cell? ((⟨g, 0, none⟩ : Addr).add j) = some u := by
  subst h
  intro j u hu
  have hb : Box (w.alloc (.cells #[a, b, c, d] t)) w.heap.size t #[a, b, c, d] := Box.new' rfl
  rw [Addr.add_lit, hb.cell]
  simpa using hu

set_option maxHeartbeats 400000 in
theorem grownStretch_any (base n : Nat) (v : Value) (xs : List Value) (lo hi x y : Int) (w : World) (h : w.ownsRow base 141 4 v n xs) (hn : Hid (n ≤ 1000)) :
    Calls Try.prog 104 #[v, .agg #[.int .i64 lo, .int .i64 hi, .int .i64 x, .int .i64 y]] w (RetGrown 141 4 (n + 1) (xs ++ [.int .i64 lo, .int .i64 hi, .int .i64 x, .int .i64 y]) w) := by
  obtain ⟨i0, hi', hz0, hz1, hz2⟩ := info_parts infoStretch
  have hlen := Lib.hid h.1
  rcases h.2 with ⟨rfl, rfl⟩ | ⟨g, cap, cur, rfl, hb, hg, hnc, hcm, hcs, htake⟩
  · have hx : xs = [] := List.eq_nil_of_length_eq_zero (by have := hlen.out; omega)
    subst hx
    clear h
    go_enter Try.func104, Try.ntmps104
    go_wp2_with fail
    go_region_law (refine step_append_grows rfl (.tmp 10) (.tmp 12) 137 rfl 141 i0 _ 4 32 Try.underlying137 hi' hz0 hz1 hz2 rfl (by decide) none 0 0 [] (by simp [Act.eval, Act.put]) (fun _ => ⟨rfl, rfl⟩) (by simp) (by simp) ⟨w.heap.size + 1, 0, none⟩ 1 1 [.int .i64 lo, .int .i64 hi, .int .i64 x, .int .i64 y] (by simp [Act.eval, Act.put]) rfl (cells_four_new _ _ _ _ _ _ _ (by simp)) (by simp [Value.oneCell']) (by omega) (by have := hn.out; simp [maxLen]; try omega) (by have := hn.out; omega) ?_; intro v' w1 hown1 hgrow1)
    go_wp2_with fail
    go_ret
    refine ⟨v', rfl, own_mono hown1 (by simp; try omega), ?_⟩
    refine Below.trans ?_ (gb_to_below (B := w.heap.size) hgrow1 (by simp; try omega) (by simp))
    exact bel
  · have hold := Lib.hid (h.cells (g := g) rfl)
    have hlt : g < w.heap.size := (Array.getElem?_eq_some_iff.1 hg).1
    have HC := Lib.hid hcm
    have HT := Lib.hid htake
    have HS := Lib.hid hcs
    have HH := Lib.hid h
    have HG := Lib.hid hg
    clear hcm htake hcs h hg
    go_enter Try.func104, Try.ntmps104
    go_wp2_with fail
    go_region_law (refine step_append_grows rfl (.tmp 10) (.tmp 12) 137 rfl 141 i0 _ 4 32 Try.underlying137 hi' hz0 hz1 hz2 rfl (by decide) (some ⟨g, 0, none⟩) n n xs (by simp [Act.eval, Act.put]) (by simp) hlen.out (cells_later hold.out hlt bel) ⟨w.heap.size + 1, 0, none⟩ 1 1 [.int .i64 lo, .int .i64 hi, .int .i64 x, .int .i64 y] (by simp [Act.eval, Act.put]) rfl (cells_four_new _ _ _ _ _ _ _ (by simp)) (by simp [Value.oneCell']) (by omega) (by have := hn.out; simp [maxLen]; try omega) (by have := hn.out; omega) ?_; intro v' w1 hown1 hgrow1)
    go_wp2_with fail
    go_ret
    refine ⟨v', rfl, own_mono hown1 (by simp; try omega), ?_⟩
    refine Below.trans ?_ (gb_to_below (B := w.heap.size) hgrow1 (by simp; try omega) (by simp))
    exact bel
end Go.Proofs.Ytigpefjeelgfdaa

/-
  'copy' of a whole list into new memory of the call's own, whatever the size of an element. No program is named here.
-/
namespace Go.Proofs.Ytigpefjeelgfdaa
open Go.RowKit

section
variable {P : Program}
theorem run_copy_wide (w : World) (dT sT ty elem : TypeId) (size g n dCap : Nat) (a : Addr) (sCap : Nat) (cur : Array Value) (t : TypeId) (cs : List Value)
    (hu : P.underlying dT = some (.slice elem)) (hs : (P.info? elem).map (·.size) = some size)
    (hg : w.heap[g]? = some (.cells cur t (0, 0))) (hn : cs.length = n * size)
    (hsrc : ∀ j v, cs[j]? = some v → w.cell? (a.add j) = some v) (hfit : cs.length ≤ cur.size) (h1 : ∀ v ∈ cs, v.oneCell' = true) :
    (Builtin.copy_ #[dT, sT] ty #[.slice (some ⟨g, 0, none⟩) n dCap, .slice (some a) n sCap]).run P w =
      .ok (goInt n) (w.setRow g (cs ++ cur.toList.drop cs.length).toArray) := by
  have hl := run_loadCells_list (P := P) w a cs hsrc
  have hst := run_storeCells_at P g 0 t cs 0 cur w hg (by simpa using hfit) h1
  simp only [Nat.zero_add, List.take_zero, List.nil_append] at hst
  cases hq : P.info? elem with
  | none => simp [hq] at hs
  | some i =>
    have hi : i.size = size := by simpa [hq] using hs
    have hm : Nat.min n n = n := Nat.min_self n
    simp [Builtin.copy_, run_underlying hu, Builtin.lenOf, Builtin.firstCells, sizeOf, typeInfo, hq, hi, hm, ← hn, hl, hst]
theorem run_copy_empty (w : World) (dT sT ty elem : TypeId) (size g dCap c : Nat) (hu : P.underlying dT = some (.slice elem)) (hs : (P.info? elem).map (·.size) = some size) :
    (Builtin.copy_ #[dT, sT] ty #[.slice (some ⟨g, 0, none⟩) 0 dCap, .slice none 0 c]).run P w = .ok (goInt 0) w := by
  cases hq : P.info? elem with
  | none => simp [hq] at hs
  | some i => simp [Builtin.copy_, run_underlying hu, Builtin.lenOf, Builtin.firstCells, sizeOf, typeInfo, hq, storeCells]

/-- All of a list, taken over into a row that has just been made. -/
theorem wpList_copy_taken {w : World} {ops : Array Oper} {rest : List Oper} {o : Oper} {a : Act} {Q : Exit → Act → World → Prop} (hgd : o.guard = none) (d s : Operand) (dT sT : TypeId)
    (ho : o.op = .call { callee := .builtin .copy, args := #[d, s], argTypes := #[dT, sT] }) (elem : TypeId) (size : Nat) (hu : P.underlying dT = some (.slice elem)) (hsz : (P.info? elem).map (·.size) = some size)
    (g n : Nat) (hd : a.eval d = .slice (some ⟨g, 0, none⟩) n n) (v : Value) (hs : a.eval s = v) (base base' : Nat) (zs xs : List Value)
    (hown : w.ownsRow base elem size (.slice (some ⟨g, 0, none⟩) n n) n zs) (hsrc : w.ownsRow base' elem size v n xs) (h1 : ∀ u ∈ xs, u.oneCell' = true)
    (h : ∀ w', w'.ownsRow base elem size (.slice (some ⟨g, 0, none⟩) n n) n xs → w.grownBy w' (some g) → wpList P ops Q rest (a.put o.dst (goInt n)) w') : wpList P ops Q (o :: rest) a w := by
  obtain ⟨hz, hown2⟩ := hown
  rcases hown2 with ⟨e, _⟩ | ⟨g', cap, cur, e, hb, hg, _, hcm, hcs, htake⟩
  · cases e
  · injection e with e1 e2 e3
    injection e1 with e1
    injection e1 with e1
    subst e1
    subst e3
    refine wpList_plain hgd fun K hK => ?_
    rcases hsrc.2 with ⟨rfl, rfl⟩ | ⟨gs, caps, curs, rfl, hbs, hgs, hncs, hcms, hcss, htakes⟩
    · have hrun := run_copy_empty (P := P) w dT sT o.type elem size g 0 0 hu hsz
      have hx : xs = [] := List.eq_nil_of_length_eq_zero (by have := hsrc.1; omega)
      unfold Oper.wp
      simp [execOp, ho, resolve, invoke, builtin, hd, hs, hrun, Result.andThen]
      refine hK _ _ (h w ?_ (gb_refl _ _))
      rw [hx]
      exact ⟨by simp, .inr ⟨g, 0, cur, rfl, hb, hg, by omega, hcm, hcs, by simp⟩⟩
    · have hrun := run_copy_wide (P := P) w dT sT o.type elem size g n n ⟨gs, 0, none⟩ caps cur elem xs hu hsz hg hsrc.1 (hsrc.cells (g := gs) rfl) (by rw [hsrc.1, hcs]; exact Nat.le_refl _) h1
      unfold Oper.wp
      simp [execOp, ho, resolve, invoke, builtin, hd, hs, hrun, Result.andThen]
      have hdrop : cur.toList.drop xs.length = [] := by
        apply List.drop_of_length_le
        rw [hsrc.1, Array.length_toList, hcs]
        exact Nat.le_refl _
      rw [hdrop, List.append_nil]
      refine hK _ _ (h _ ?_ ?_)
      · refine ⟨hsrc.1, .inr ⟨g, n, xs.toArray, rfl, hb, setRow_heap w g cur _ elem _ hg, by omega, hcm, by rw [List.size_toArray]; exact hsrc.1, ?_⟩⟩
        rw [List.take_of_length_le (by simp [hsrc.1])]
      · refine ⟨rfl, rfl, rfl, by simp [World.setRow], fun k hk hne => setRow_other w g k _ (fun e => hne (by rw [e]))⟩
end
end Go.Proofs.Ytigpefjeelgfdaa

/-
  Walks of layer 1: a list taken over as a result.
-/
namespace Go.Proofs.Ytigpefjeelgfdaa
open Go.RowKit

set_option maxHeartbeats 400000 in
theorem takenInt64_any (base n : Nat) (v : Value) (xs : List Value) (w : World) (h : w.ownsRow base 2 1 v n xs) (hn : Hid (n ≤ 1000)) (h1 : Hid (∀ u ∈ xs, u.oneCell' = true)) :
    Calls Try.prog 71 #[v] w (RetGrown 2 1 n xs w) := by
  obtain ⟨i0, hi', hz0, hz1, hz2⟩ := info_parts infoInt64
  have hsz : Hid ((Try.prog.info? 2).map (·.size) = some 1) := by simp [Hid, hi', hz1]
  rcases h.2 with ⟨rfl, rfl⟩ | ⟨g, cap, cur, rfl, hb, hg, hnc, hcm, hcs, htake⟩
  · have HH := Lib.hid h
    clear h
    go_enter Try.func71, Try.ntmps71
    go_wp2_with (first | (at_make; refine wpList_make_full _ rfl (.tmp 5) (.tmp 5) _ rfl w.heap.size 2 i0 (.int .i64 0) 1 Try.underlying43 hi' hz0 hz1 _ _ _ _ 0 rfl rfl rfl rfl (by rw [hz2]; decide) (by simp [maxLen]) (Nat.le_refl _) ?_; intro w1 hown1 hgrow1; have HO := Lib.hid hown1; clear hown1) | (refine wpList_copy_taken (o := ⟨some 9, _, _, _, _, _⟩) rfl (.tmp 7) (.tmp 8) _ _ rfl 2 1 Try.underlying43 hsz.out w.heap.size 0 rfl (.slice none 0 0) rfl _ base _ xs HO.out (own_later HH.out (gb_to_below hgrow1 (Nat.le_refl _) (by simp))) h1.out ?_; intro w2 hown2 hgrow2; have HO2 := Lib.hid hown2; clear hown2))
    go_ret
    exact ⟨_, rfl, HO2.out, (gb_to_below hgrow1 (Nat.le_refl _) (by simp)).trans (gb_to_below (B := w.heap.size) hgrow2 hgrow1.size (by intro g hg; injection hg with hg; omega))⟩
  · have HH := Lib.hid h
    have HC := Lib.hid hcm
    have HT := Lib.hid htake
    have HS := Lib.hid hcs
    have HG := Lib.hid hg
    clear hcm htake hcs h hg
    go_enter Try.func71, Try.ntmps71
    go_wp2_with (first | (at_make; refine wpList_make_full _ rfl (.tmp 5) (.tmp 5) _ rfl w.heap.size 2 i0 (.int .i64 0) 1 Try.underlying43 hi' hz0 hz1 _ _ _ _ n rfl rfl rfl rfl (by rw [hz2]; have := hn.out; omega) (by have := hn.out; simp only [maxLen]; omega) (Nat.le_refl _) ?_; intro w1 hown1 hgrow1; have HO := Lib.hid hown1; clear hown1) | (refine wpList_copy_taken (o := ⟨some 9, _, _, _, _, _⟩) rfl (.tmp 7) (.tmp 8) _ _ rfl 2 1 Try.underlying43 hsz.out w.heap.size n rfl (.slice (some ⟨g, 0, none⟩) n cap) rfl _ base _ xs HO.out (own_later HH.out (gb_to_below hgrow1 (Nat.le_refl _) (by simp))) h1.out ?_; intro w2 hown2 hgrow2; have HO2 := Lib.hid hown2; clear hown2))
    go_ret
    exact ⟨_, rfl, HO2.out, (gb_to_below hgrow1 (Nat.le_refl _) (by simp)).trans (gb_to_below (B := w.heap.size) hgrow2 hgrow1.size (by intro g hg; injection hg with hg; omega))⟩

set_option maxHeartbeats 400000 in
theorem takenInt_any (base n : Nat) (v : Value) (xs : List Value) (w : World) (h : w.ownsRow base 3 1 v n xs) (hn : Hid (n ≤ 1000)) (h1 : Hid (∀ u ∈ xs, u.oneCell' = true)) :
    Calls Try.prog 101 #[v] w (RetGrown 3 1 n xs w) := by
  obtain ⟨i0, hi', hz0, hz1, hz2⟩ := info_parts infoInt
  have hsz : Hid ((Try.prog.info? 3).map (·.size) = some 1) := by simp [Hid, hi', hz1]
  rcases h.2 with ⟨rfl, rfl⟩ | ⟨g, cap, cur, rfl, hb, hg, hnc, hcm, hcs, htake⟩
  · have HH := Lib.hid h
    clear h
    go_enter Try.func101, Try.ntmps101
    go_wp2_with (first | (at_make; refine wpList_make_full _ rfl (.tmp 5) (.tmp 5) _ rfl w.heap.size 3 i0 (.int .i64 0) 1 Try.underlying40 hi' hz0 hz1 _ _ _ _ 0 rfl rfl rfl rfl (by rw [hz2]; decide) (by simp [maxLen]) (Nat.le_refl _) ?_; intro w1 hown1 hgrow1; have HO := Lib.hid hown1; clear hown1) | (refine wpList_copy_taken (o := ⟨some 9, _, _, _, _, _⟩) rfl (.tmp 7) (.tmp 8) _ _ rfl 3 1 Try.underlying40 hsz.out w.heap.size 0 rfl (.slice none 0 0) rfl _ base _ xs HO.out (own_later HH.out (gb_to_below hgrow1 (Nat.le_refl _) (by simp))) h1.out ?_; intro w2 hown2 hgrow2; have HO2 := Lib.hid hown2; clear hown2))
    go_ret
    exact ⟨_, rfl, HO2.out, (gb_to_below hgrow1 (Nat.le_refl _) (by simp)).trans (gb_to_below (B := w.heap.size) hgrow2 hgrow1.size (by intro g hg; injection hg with hg; omega))⟩
  · have HH := Lib.hid h
    have HC := Lib.hid hcm
    have HT := Lib.hid htake
    have HS := Lib.hid hcs
    have HG := Lib.hid hg
    clear hcm htake hcs h hg
    go_enter Try.func101, Try.ntmps101
    go_wp2_with (first | (at_make; refine wpList_make_full _ rfl (.tmp 5) (.tmp 5) _ rfl w.heap.size 3 i0 (.int .i64 0) 1 Try.underlying40 hi' hz0 hz1 _ _ _ _ n rfl rfl rfl rfl (by rw [hz2]; have := hn.out; omega) (by have := hn.out; simp only [maxLen]; omega) (Nat.le_refl _) ?_; intro w1 hown1 hgrow1; have HO := Lib.hid hown1; clear hown1) | (refine wpList_copy_taken (o := ⟨some 9, _, _, _, _, _⟩) rfl (.tmp 7) (.tmp 8) _ _ rfl 3 1 Try.underlying40 hsz.out w.heap.size n rfl (.slice (some ⟨g, 0, none⟩) n cap) rfl _ base _ xs HO.out (own_later HH.out (gb_to_below hgrow1 (Nat.le_refl _) (by simp))) h1.out ?_; intro w2 hown2 hgrow2; have HO2 := Lib.hid hown2; clear hown2))
    go_ret
    exact ⟨_, rfl, HO2.out, (gb_to_below hgrow1 (Nat.le_refl _) (by simp)).trans (gb_to_below (B := w.heap.size) hgrow2 hgrow1.size (by intro g hg; injection hg with hg; omega))⟩

set_option maxHeartbeats 400000 in
theorem takenInts_any (base n : Nat) (v : Value) (xs : List Value) (w : World) (h : w.ownsRow base 40 1 v n xs) (hn : Hid (n ≤ 1000)) (h1 : Hid (∀ u ∈ xs, u.oneCell' = true)) :
    Calls Try.prog 79 #[v] w (RetGrown 40 1 n xs w) := by
  obtain ⟨i0, hi', hz0, hz1, hz2⟩ := info_parts infoInts
  have hsz : Hid ((Try.prog.info? 40).map (·.size) = some 1) := by simp [Hid, hi', hz1]
  rcases h.2 with ⟨rfl, rfl⟩ | ⟨g, cap, cur, rfl, hb, hg, hnc, hcm, hcs, htake⟩
  · have HH := Lib.hid h
    clear h
    go_enter Try.func79, Try.ntmps79
    go_wp2_with (first | (at_make; refine wpList_make_full _ rfl (.tmp 5) (.tmp 5) _ rfl w.heap.size 40 i0 (.slice none 0 0) 1 Try.underlying56 hi' hz0 hz1 _ _ _ _ 0 rfl rfl rfl rfl (by rw [hz2]; decide) (by simp [maxLen]) (Nat.le_refl _) ?_; intro w1 hown1 hgrow1; have HO := Lib.hid hown1; clear hown1) | (refine wpList_copy_taken (o := ⟨some 9, _, _, _, _, _⟩) rfl (.tmp 7) (.tmp 8) _ _ rfl 40 1 Try.underlying56 hsz.out w.heap.size 0 rfl (.slice none 0 0) rfl _ base _ xs HO.out (own_later HH.out (gb_to_below hgrow1 (Nat.le_refl _) (by simp))) h1.out ?_; intro w2 hown2 hgrow2; have HO2 := Lib.hid hown2; clear hown2))
    go_ret
    exact ⟨_, rfl, HO2.out, (gb_to_below hgrow1 (Nat.le_refl _) (by simp)).trans (gb_to_below (B := w.heap.size) hgrow2 hgrow1.size (by intro g hg; injection hg with hg; omega))⟩
  · have HH := Lib.hid h
    have HC := Lib.hid hcm
    have HT := Lib.hid htake
    have HS := Lib.hid hcs
    have HG := Lib.hid hg
    clear hcm htake hcs h hg
    go_enter Try.func79, Try.ntmps79
    go_wp2_with (first | (at_make; refine wpList_make_full _ rfl (.tmp 5) (.tmp 5) _ rfl w.heap.size 40 i0 (.slice none 0 0) 1 Try.underlying56 hi' hz0 hz1 _ _ _ _ n rfl rfl rfl rfl (by rw [hz2]; have := hn.out; omega) (by have := hn.out; simp only [maxLen]; omega) (Nat.le_refl _) ?_; intro w1 hown1 hgrow1; have HO := Lib.hid hown1; clear hown1) | (refine wpList_copy_taken (o := ⟨some 9, _, _, _, _, _⟩) rfl (.tmp 7) (.tmp 8) _ _ rfl 40 1 Try.underlying56 hsz.out w.heap.size n rfl (.slice (some ⟨g, 0, none⟩) n cap) rfl _ base _ xs HO.out (own_later HH.out (gb_to_below hgrow1 (Nat.le_refl _) (by simp))) h1.out ?_; intro w2 hown2 hgrow2; have HO2 := Lib.hid hown2; clear hown2))
    go_ret
    exact ⟨_, rfl, HO2.out, (gb_to_below hgrow1 (Nat.le_refl _) (by simp)).trans (gb_to_below (B := w.heap.size) hgrow2 hgrow1.size (by intro g hg; injection hg with hg; omega))⟩

set_option maxHeartbeats 400000 in
theorem takenRange_any (base n : Nat) (v : Value) (xs : List Value) (w : World) (h : w.ownsRow base 33 2 v n xs) (hn : Hid (n ≤ 1000)) (h1 : Hid (∀ u ∈ xs, u.oneCell' = true)) :
    Calls Try.prog 94 #[v] w (RetGrown 33 2 n xs w) := by
  obtain ⟨i0, hi', hz0, hz1, hz2⟩ := info_parts infoRange
  have hsz : Hid ((Try.prog.info? 33).map (·.size) = some 2) := by simp [Hid, hi', hz1]
  rcases h.2 with ⟨rfl, rfl⟩ | ⟨g, cap, cur, rfl, hb, hg, hnc, hcm, hcs, htake⟩
  · have HH := Lib.hid h
    clear h
    go_enter Try.func94, Try.ntmps94
    go_wp2_with (first | (at_make; refine wpList_make_full _ rfl (.tmp 5) (.tmp 5) _ rfl w.heap.size 33 i0 (.agg #[.int .i64 0, .int .i64 0]) 2 Try.underlying22 hi' hz0 hz1 _ _ _ _ 0 rfl rfl rfl rfl (by rw [hz2]; decide) (by simp [maxLen]) (Nat.le_refl _) ?_; intro w1 hown1 hgrow1; have HO := Lib.hid hown1; clear hown1) | (refine wpList_copy_taken (o := ⟨some 9, _, _, _, _, _⟩) rfl (.tmp 7) (.tmp 8) _ _ rfl 33 2 Try.underlying22 hsz.out w.heap.size 0 rfl (.slice none 0 0) rfl _ base _ xs HO.out (own_later HH.out (gb_to_below hgrow1 (Nat.le_refl _) (by simp))) h1.out ?_; intro w2 hown2 hgrow2; have HO2 := Lib.hid hown2; clear hown2))
    go_ret
    exact ⟨_, rfl, HO2.out, (gb_to_below hgrow1 (Nat.le_refl _) (by simp)).trans (gb_to_below (B := w.heap.size) hgrow2 hgrow1.size (by intro g hg; injection hg with hg; omega))⟩
  · have HH := Lib.hid h
    have HC := Lib.hid hcm
    have HT := Lib.hid htake
    have HS := Lib.hid hcs
    have HG := Lib.hid hg
    clear hcm htake hcs h hg
    go_enter Try.func94, Try.ntmps94
    go_wp2_with (first | (at_make; refine wpList_make_full _ rfl (.tmp 5) (.tmp 5) _ rfl w.heap.size 33 i0 (.agg #[.int .i64 0, .int .i64 0]) 2 Try.underlying22 hi' hz0 hz1 _ _ _ _ n rfl rfl rfl rfl (by rw [hz2]; have := hn.out; omega) (by have := hn.out; simp only [maxLen]; omega) (Nat.le_refl _) ?_; intro w1 hown1 hgrow1; have HO := Lib.hid hown1; clear hown1) | (refine wpList_copy_taken (o := ⟨some 9, _, _, _, _, _⟩) rfl (.tmp 7) (.tmp 8) _ _ rfl 33 2 Try.underlying22 hsz.out w.heap.size n rfl (.slice (some ⟨g, 0, none⟩) n cap) rfl _ base _ xs HO.out (own_later HH.out (gb_to_below hgrow1 (Nat.le_refl _) (by simp))) h1.out ?_; intro w2 hown2 hgrow2; have HO2 := Lib.hid hown2; clear hown2))
    go_ret
    exact ⟨_, rfl, HO2.out, (gb_to_below hgrow1 (Nat.le_refl _) (by simp)).trans (gb_to_below (B := w.heap.size) hgrow2 hgrow1.size (by intro g hg; injection hg with hg; omega))⟩
end Go.Proofs.Ytigpefjeelgfdaa

/-
  Walks of layer 1: the way of a course, and the stretches of a way.
-/
namespace Go.Proofs.Ytigpefjeelgfdaa
open Go.RowKit

/-- The block of a course: bars, steps, bar, ways, rows. -/
def Course (w : World) (c : Nat) (Ab As Ar : Option Addr) (cb cs cr : Nat) (x : Works) (m : Nat) (ways : List Int) (vr : Value) : Prop :=
  Box w c 132 #[.slice Ab x.bars.length cb, .slice As x.steps.length cs, .int .i64 m, .slice Ar ways.length cr, vr]
theorem Course.cells {w : World} {c : Nat} {Ab As Ar : Option Addr} {cb cs cr : Nat} {x : Works} {m : Nat} {ways : List Int} {vr : Value} (h : Course w c Ab As Ar cb cs cr x m ways vr) :
    w.cell? ⟨c, 0, none⟩ = some (.slice Ab x.bars.length cb) ∧ w.cell? ⟨c, 1, none⟩ = some (.slice As x.steps.length cs) ∧ w.cell? ⟨c, 2, none⟩ = some (.int .i64 m) ∧ w.cell? ⟨c, 3, none⟩ = some (.slice Ar ways.length cr) ∧
      w.cell? ⟨c, 4, none⟩ = some vr ∧ w.frozen? ⟨c, 4, none⟩ = false := ⟨Box.cell h 0, Box.cell h 1, Box.cell h 2, Box.cell h 3, Box.cell h 4, Box.frozen h 4⟩

set_option maxHeartbeats 1000000 in
theorem way_any (c : Nat) (Ab As Ar : Option Addr) (cb cs cr : Nat) (x : Works) (m : Nat) (ways : List Int) (vr : Value) (B k : Nat) (w : World) (h : In w B Ab As Ar cb cs cr x ways) (ok : RecOk x m ways)
    (hc : Course w c Ab As Ar cb cs cr x m ways vr) (hk : k < x.steps.length) :
    Calls Try.prog 90 #[.pointer (some ⟨c, 0, none⟩), .int .i64 k] w
      fun e w' => ∃ (A : Option Addr) (cap : Nat), e = .returned (.agg #[.slice A (wayOf x ways k).length cap]) ∧ KinksA w B A (wayOf x ways k) ∧ (wayOf x ways k).length ≤ cap ∧ cap ≤ 9223372036854775807 ∧ wayErr (wayOf x ways k) = 0 ∧ Below w.heap.size w w' := by
  obtain ⟨u0, u1, u2, u3, u4, u5⟩ := hc.cells
  have hz := Box.lt hc
  have hB := h.le
  have hwl := ok.len
  obtain ⟨b1, o1, b2, o2, b3, o3, A1, A2, c1, c2, ws, mm, ks, rfl, rfl, rfl, hb1', hb2', hb3', hm, f1, f2, f3, l1, l2, l3, l4, hks, hwo, hwe, hne0, _⟩ := way_at h.steps h.rways ok hk
  have v1 : b1 < w.heap.size := by omega
  have v2 : b2 < w.heap.size := by omega
  have v3 : b3 < w.heap.size := by omega
  have s1 : (k : Int) < (ways.length : Int) := by omega
  have s2 : (k : Int) < (x.steps.length : Int) := by omega
  have s3 : (mm : Int) < (ws.length : Int) := by omega
  have W := Lib.hid hwl
  clear hwl
  go_enter Try.func90, Try.ntmps90
  go_wp2_with fail
  have s4 : c < (w.alloc (.cells #[.slice none 0 0] 28)).heap.size := by simp; omega
  refine wp_region_later_tail 19 (by kernel_rfl) (by kernel_rfl) ?_; simp only [List.take_succ_cons, List.take_zero, List.drop_succ_cons, List.drop_zero]; have _hl := later_reads (w.alloc (.cells #[.slice none 0 0] 28)); (repeat (go_big_quiet_step (fail))); refine wpQuiet_nil ?_; intro w3 hw'; have hb_w3 := later_below hw'; clear hw' _hl
  obtain ⟨_hr1, _hr2⟩ := below_reads hb_w3; have _hz := Below.size hb_w3; (try simp only [World.size_alloc, World.size_setCell, World.size_drew, World.heap_drewN] at _hz); obtain ⟨_hr3, _hr4⟩ := below_reads (show Below w.heap.size w w3 from bel); have _q0 : w.heap.size < w3.heap.size := (by omega)
  go_wp2_with fail
  refine bodyPost_ret (v := .agg #[.slice A2 ks.length c2]) (by simp [results, Try.results90, go_sem, *]) rfl ?_
  refine ⟨A2, c2, by rw [hwo.out], by rw [hwo.out]; exact hks, by rw [hwo.out]; exact l3, l4, by rw [hwo.out]; exact hwe, ?_⟩
  exact bel
end Go.Proofs.Ytigpefjeelgfdaa

/-
  Walks of layer 1: the stretches of a way.
-/
namespace Go.Proofs.Ytigpefjeelgfdaa
open Go.RowKit

structure Str where
  f1 : Int
  f2 : Int
  t1 : Int
  t2 : Int
def strAt (ks : List Kink) (i : Nat) : Str := ⟨(kk ks i).frm, if i + 1 < ks.length then (kk ks (i + 1)).frm - 1 else 1000, (kk ks i).lo, (kk ks i).hi⟩
def strCells (s : Str) : List Value := [.int .i64 s.f1, .int .i64 s.f2, .int .i64 s.t1, .int .i64 s.t2]
def strTo (ks : List Kink) (k : Nat) : List Value := (List.range k).flatMap fun i => strCells (strAt ks i)
theorem strTo_succ (ks : List Kink) (k : Nat) : strTo ks (k + 1) = strTo ks k ++ strCells (strAt ks k) := by simp [strTo, List.range_succ]

set_option maxHeartbeats 1000000 in
theorem stretches_any (A : Option Addr) (c : Nat) (ks : List Kink) (B : Nat) (w : World) (h : KinksA w B A ks) (hc : ks.length ≤ c) (hm : c ≤ 9223372036854775807) (hB : B ≤ w.heap.size) (hv : KinksVal ks) (hl : Hid (ks.length ≤ 12)) :
    Calls Try.prog 89 #[.agg #[.slice A ks.length c]] w (RetGrown 141 4 ks.length (strTo ks ks.length) w) := by
  go_enter Try.func89, Try.ntmps89
  go_wp2_with fail
  go_loopw [3, 10] (fun v i wr => ∃ (k : Nat), k ≤ ks.length ∧ i = .int .i64 k ∧ Hid (wr.ownsRow w.heap.size 141 4 v k (strTo ks k)) ∧ Below w.heap.size w wr ∧ Box wr w.heap.size 28 #[.slice A ks.length c])
    (fun _ i _ => ks.length - (intOf i).toNat)
  case atStart =>
    refine ⟨0, by omega, rfl, World.ownsRow_nil _ _ _ _, bel, ?_⟩
    exact bxt
  case round =>
    obtain ⟨k, hk, rfl, ho, hbl, bw⟩ := hrel
    obtain ⟨u1, u2⟩ := bw.one
    have hz := bw.lt
    by_cases hlt : k < ks.length
    · obtain ⟨b, off, f, x, y, rfl, hb, hx, d0, d1, d2⟩ := kinksA (kinks_on h hbl hB) hlt
      have hkk := Lib.hid (kk_of hx)
      have hbr : b < wr.heap.size := by omega
      by_cases hlast : k + 1 < ks.length
      · obtain ⟨b', off', p, x', y', e, hb', hx', c0, c1, c2⟩ := kinksA (kinks_on h hbl hB) (i := k + 1) hlast
        obtain ⟨rfl, rfl⟩ : b' = b ∧ off' = off := by simp at e; exact ⟨e.1.symm, e.2.symm⟩
        clear e
        have hkk' := Lib.hid (kk_of hx')
        obtain ⟨_, _, _, p1, p2⟩ := hv _ _ hx'.out
        simp only at p1 p2
        have hst : Hid (strCells (strAt ks k) = [.int .i64 f, .int .i64 (p - 1), .int .i64 x, .int .i64 y]) := by simp only [Hid, strCells, strAt, hkk.out, hkk'.out, if_pos hlast]
        clear hx hx'
        have hl2 : (k : Int) + 1 < (ks.length : Int) := by omega
        go_wp2_with (go_at_call 104; refine (grownStretch_any w.heap.size k _ _ f (p - 1) x y _ (own_later ho.out bel) (by have := hl.out; show k ≤ 1000; omega)).mono ?_; rintro e w2 ⟨v2, rfl, ho2, hb2⟩; have HO := Lib.hid ho2; clear ho2; obtain ⟨_hr1, _hr2⟩ := below_reads hb2; have _hz := Below.size hb2; (try simp only [World.size_alloc, World.size_setCell, World.size_drew, World.heap_drewN] at _hz))
        go_roundw
        case rel =>
          refine ⟨k + 1, by omega, by go_num, ?_, bel, ?_⟩
          · rw [strTo_succ, hst.out]
            exact own_mono HO.out (by (focus (first | omega | (simp only [World.size_alloc, World.size_setCell, World.size_drew, World.heap_drewN]; first | done | omega))))
          · exact bxt
        case measure => simp [intOf]; omega
      · have hst : Hid (strCells (strAt ks k) = [.int .i64 f, .int .i64 1000, .int .i64 x, .int .i64 y]) := by simp only [Hid, strCells, strAt, hkk.out, if_neg hlast]
        clear hx
        have hl2 : ¬ (k : Int) + 1 < (ks.length : Int) := by omega
        go_wp2_with (go_at_call 104; refine (grownStretch_any w.heap.size k _ _ f 1000 x y _ (own_later ho.out bel) (by have := hl.out; show k ≤ 1000; omega)).mono ?_; rintro e w2 ⟨v2, rfl, ho2, hb2⟩; have HO := Lib.hid ho2; clear ho2; obtain ⟨_hr1, _hr2⟩ := below_reads hb2; have _hz := Below.size hb2; (try simp only [World.size_alloc, World.size_setCell, World.size_drew, World.heap_drewN] at _hz))
        go_roundw
        case rel =>
          refine ⟨k + 1, by omega, by go_num, ?_, bel, ?_⟩
          · rw [strTo_succ, hst.out]
            exact own_mono HO.out (by (focus (first | omega | (simp only [World.size_alloc, World.size_setCell, World.size_drew, World.heap_drewN]; first | done | omega))))
          · exact bxt
        case measure => simp [intOf]; omega
    · obtain rfl : k = ks.length := by omega
      go_wp2_with fail
      go_ret
      exact ⟨_, rfl, ho.out, hbl⟩
end Go.Proofs.Ytigpefjeelgfdaa

/-
  'clear' of a row of the call's own. No program is named here.
-/
namespace Go.Proofs.Ytigpefjeelgfdaa
open Go.RowKit

section
variable {P : Program}
theorem run_clear_row (w : World) (t ty elem : TypeId) (z : Value) (g n cap : Nat) (cur : Array Value) (t' : TypeId) (ht : P.underlying t = some (.slice elem)) (hz : ∀ w : World, (zeroValue elem).run P w = .ok z w)
    (hb : w.heap[g]? = some (.cells cur t' (0, 0))) (hn : (Builtin.zeroCells z.cells n).size = cur.size) (h1 : ∀ v ∈ (Builtin.zeroCells z.cells n).toList, v.oneCell' = true) (h0 : n ≠ 0) :
    (Builtin.clear_ #[t] ty #[.slice (some ⟨g, 0, none⟩) n cap]).run P w = .ok (.tuple #[]) (w.setRow g (Builtin.zeroCells z.cells n)) := by
  have hst := run_storeCells_at P g 0 t' (Builtin.zeroCells z.cells n).toList 0 cur w hb (by simp [hn]) h1
  have hd : cur.toList.drop (0 + 0 + (Builtin.zeroCells z.cells n).toList.length) = [] := by
    apply List.drop_of_length_le
    simp [hn]
  rw [hd] at hst
  simp only [Nat.add_zero, List.take_zero, List.nil_append, List.append_nil, Array.toArray_toList] at hst
  obtain ⟨m, rfl⟩ : ∃ m, n = m + 1 := ⟨n - 1, by omega⟩
  simp [Builtin.clear_, run_underlying ht, hz, hst]
theorem wpList_clear_row {w : World} {ops : Array Oper} {rest : List Oper} {o : Oper} {a : Act} {Q : Exit → Act → World → Prop} (hgd : o.guard = none) (x : Operand) (t : TypeId)
    (ho : o.op = .call { callee := .builtin .clear, args := #[x], argTypes := #[t] }) (elem : TypeId) (z : Value) (ht : P.underlying t = some (.slice elem)) (hz : ∀ w : World, (zeroValue elem).run P w = .ok z w)
    (g n cap : Nat) (hx : a.eval x = .slice (some ⟨g, 0, none⟩) n cap) (cur : Array Value) (t' : TypeId) (hb : Box w g t' cur) (hn : (Builtin.zeroCells z.cells n).size = cur.size) (h1 : ∀ v ∈ (Builtin.zeroCells z.cells n).toList, v.oneCell' = true) (h0 : n ≠ 0)
    (h : ∀ w', Box w' g t' (Builtin.zeroCells z.cells n) → w.grownBy w' (some g) → wpList P ops Q rest (a.put o.dst (.tuple #[])) w') : wpList P ops Q (o :: rest) a w := by
  refine wpList_plain hgd fun K hK => ?_
  have hrun := run_clear_row (P := P) w t o.type elem z g n cap cur t' ht hz hb hn h1 h0
  unfold Oper.wp
  simp [execOp, ho, resolve, invoke, builtin, hx, hrun, Result.andThen]
  refine hK _ _ (h _ (setRow_heap w g cur _ t' _ hb) ?_)
  exact ⟨rfl, rfl, rfl, by simp [World.setRow], fun k hk hne => setRow_other w g k _ (fun e => hne (by rw [e]))⟩
end
end Go.Proofs.Ytigpefjeelgfdaa

/-
  A whole row, loaded in the quiet head of a region. No program is named here.
-/
namespace Go.Proofs.Ytigpefjeelgfdaa
open Go.RowKit

theorem wpQuiet_load_row {P : Program} {ops : Array Oper} {C : World → Prop} {Q : Act → Prop} {rest : List Oper} {a : Act} {d : Tmp} {ty t : TypeId} {x : Operand} {pos : String} {af : Array Edge}
    (b o : Nat) (cs : Array Value) (desc : TypeDesc) (hx : a.eval x = .pointer (some ⟨b, o, none⟩)) (hr : ∀ W, C W → W.rangeAt b o cs.toList) (hu : P.underlying ty = some desc) (hd : desc.isRow = true)
    (hi : (P.info? ty).map (·.size) = some cs.size) (h : wpQuiet P ops C Q rest (a.put (some d) (.agg cs))) : wpQuiet P ops C Q (⟨some d, .load ty x, t, pos, af, none⟩ :: rest) a :=
  wpQuiet_step fun K hK => by
    rw [if_pos (by simp [Region.wanted])]
    refine ⟨.agg cs, fun W hW => ?_, hK _ h⟩
    have hl := run_loadAt_mid (P := P) W b o ty cs.toList desc (hr W hW) hu hd (by rw [hi]; simp)
    unfold Oper.quietAt
    simp only [execOp, hx, Sem.run_bind, hl, Result.andThen_ok, Sem.run_pure]
    exact ⟨rfl, by simp⟩
theorem range_later {w : World} {g : Nat} {cs : Array Value} {t : TypeId} (h : Box w g t cs) : ∀ W, (∃ x : LaterW w, W = x.world) → W.rangeAt g 0 cs.toList := by
  intro W hW j v hv
  have hb := Box.below h (later_below hW) h.lt
  rw [hb.cell]
  simpa using hv
end Go.Proofs.Ytigpefjeelgfdaa

/-
  Walks of layer 1: a list of rows with one more.
-/
namespace Go.Proofs.Ytigpefjeelgfdaa
open Go.RowKit

theorem infoRow : (Try.prog.info? 134).map (fun i => (i.zero, i.size, i.bytes)) = some (some (.agg (rowCells fun _ => false)), 1001, 1001) := by kernel_rfl
theorem zeroRow : Try.zeroCells134 = rowCells (fun _ => false) := by kernel_rfl
theorem sizeRow : (Try.prog.info? 134).map (·.size) = some 1001 := by kernel_rfl

theorem cells_row_new (w : World) (t : TypeId) (cs : Array Value) (g : Nat) (h : g = w.heap.size) : ∀ j u, cs.toList[j]? = some u → (w.alloc (.cells cs t)).cell? ((⟨g, 0, none⟩ : Addr).add j) = some u := by
  subst h
  intro j u hu
  have hb : Box (w.alloc (.cells cs t)) w.heap.size t cs := Box.new' rfl
  rw [Addr.add_lit, hb.cell]
  simpa using hu
theorem rowCells_size (p : Nat → Bool) : (rowCells p).size = 1001 := by simp [rowCells]
theorem rowCells_one (p : Nat → Bool) : ∀ u ∈ (rowCells p).toList, u.oneCell' = true := by
  intro u hu
  simp only [rowCells, List.mem_map] at hu
  obtain ⟨j, _, rfl⟩ := hu
  rfl
theorem rowZero_size : (Value.agg (rowCells fun _ => false)).cells.size = 1001 := rowCells_size _
theorem run_load_row {b o : Nat} {p : Nat → Bool} (W : World) (h : W.rangeAt b o (rowCells p).toList) : (Instr.loadAt 134 (.pointer (some ⟨b, o, none⟩))).run Try.prog W = .ok (.agg (rowCells p)) W := by
  have := run_loadAt_mid (P := Try.prog) W b o 134 (rowCells p).toList _ h Try.underlying134 rfl (by rw [sizeRow]; simp [rowCells_size])
  simpa using this
theorem fold_row (cs Z : List Value) (h : cs.length = Z.length) : ((cs.zipIdx).foldl (fun (a : Array Value) (x : Value × Nat) => a.setIfInBounds (0 + x.2) x.1) Z.toArray) = cs.toArray := by
  have key : ∀ (k : Nat) (rest done : List Value) (tail : List Value), done.length = k → tail.length = rest.length →
      ((rest.zipIdx k).foldl (fun (a : Array Value) (x : Value × Nat) => a.setIfInBounds (0 + x.2) x.1) (done ++ tail).toArray) = (done ++ rest).toArray := by
    intro k rest
    induction rest generalizing k with
    | nil => intro done tail hd ht; simp at ht; subst ht; simp
    | cons c rest ih =>
      intro done tail hd ht
      cases tail with
      | nil => simp at ht
      | cons t tail =>
        simp only [List.zipIdx_cons, List.foldl_cons]
        have e : (done ++ t :: tail).toArray.setIfInBounds (0 + k) c = ((done ++ [c]) ++ tail).toArray := by
          simp [← hd]
        rw [e, ih (k + 1) (done ++ [c]) tail (by simp [hd]) (by simpa using ht)]
        simp
  have := key 0 cs [] Z rfl h.symm
  simpa using this
theorem run_buildSlice_one {P : Program} (w : World) (t e : TypeId) (i : TypeInfo) (z : Value) (cs : Array Value) (ht : P.underlying t = some (.slice e)) (hi : P.info? e = some i) (hz : i.zero = some z)
    (hzs : z.cells.size = i.size) (hcs : cs.size = i.size) (h0 : 0 < i.size) (hsm : i.size ≤ 16777216) :
    (Instr.buildSlice t 1 #[(0, .agg cs)]).run P w = .ok (.slice (some ⟨w.heap.size, 0, none⟩) 1 1) (w.alloc (.cells cs e)) := by
  have hf : Instr.fill (fun j => some (j * i.size, i.size)) ((Array.range (1 * i.size)).map (z.cells[· % z.cells.size]!)) [(0, .agg cs)] = some cs := by
    generalize hZ : (Array.range (1 * i.size)).map (z.cells[· % z.cells.size]!) = Z
    have hZs : Z.size = i.size := by rw [← hZ]; simp
    have hc : (Value.agg cs).cells = cs := rfl
    simp only [Instr.fill, hc, Nat.zero_mul, Nat.zero_add]
    rw [if_neg (by simp [hcs, hZs])]
    have := fold_row cs.toList Z.toList (by simp [hcs, hZs])
    simp only [Nat.zero_add, Array.toArray_toList] at this
    have e2 : cs.zipIdx.foldl (fun (a : Array Value) (x : Value × Nat) => a.setIfInBounds x.2 x.1) Z = cs := by
      rw [← Array.foldl_toList, Array.toList_zipIdx]
      exact this
    exact congrArg some e2
  simp only [Instr.buildSlice, Sem.run_bind, run_underlying ht, Result.andThen_ok, sizeOf, typeInfo, hi]
  simp only [Nat.one_mul] at hf
  simp [hi, zeroValue, typeInfo, hz, hf, newRow, show ¬ 16777216 < i.size by omega, show ¬ i.size = 0 by omega]
theorem bsRow (p : Nat → Bool) (w : World) : (Instr.buildSlice 130 1 #[(0, .agg (rowCells p))]).run Try.prog w = .ok (.slice (some ⟨w.heap.size, 0, none⟩) 1 1) (w.alloc (.cells (rowCells p) 134)) := by
  obtain ⟨i0, hi0, hz0, hz1, hz2⟩ := info_parts infoRow
  exact run_buildSlice_one w 130 134 i0 _ (rowCells p) Try.underlying130 hi0 hz0 (by rw [hz1]; exact rowCells_size _) (by rw [hz1]; exact rowCells_size _) (by omega) (by omega)
theorem range_alloc {W : World} {g : Nat} {cs : List Value} (h : W.rangeAt g 0 cs) (hg : g < W.heap.size) (o : Obj) : (W.alloc o).rangeAt g 0 cs :=
  fun j v hv => (World.cell?_alloc_lt W o _ (by simpa using hg)).trans (h j v hv)
theorem range_of_box {W : World} {g : Nat} {t : TypeId} {cs : Array Value} (h : Box W g t cs) : W.rangeAt g 0 cs.toList := by
  intro j v hv
  rw [h.cell]
  simpa using hv

theorem loadRow1 (p : Nat → Bool) (w : World) : (Instr.loadAt 134 (.pointer (some ⟨w.heap.size, 0, none⟩))).run Try.prog (w.alloc (.cells (rowCells p) 134)).drew = .ok (.agg (rowCells p)) (w.alloc (.cells (rowCells p) 134)).drew :=
  run_load_row _ (range_of_box (Box.drew (Box.new' rfl)))
theorem exBuild (f : Operand → Value) (d : Option Tmp) (ty : TypeId) (pos : String) (af : Array Edge) (gd : Option (Nat × Bool)) (W : World) (cs : Array Value) (h : f (.tmp 11) = .agg cs) (hcs : cs.size = 1001) :
    Sem.run Try.prog (execOp f ⟨d, .buildSlice 130 1 #[(0, .tmp 11)], ty, pos, af, gd⟩) W = .ok (.value (.slice (some ⟨W.heap.size, 0, none⟩) 1 1)) (W.alloc (.cells cs 134)) := by
  obtain ⟨i0, hi0, hz0, hz1, hz2⟩ := info_parts infoRow
  have := run_buildSlice_one W 130 134 i0 _ cs Try.underlying130 hi0 hz0 (by rw [hz1]; exact rowCells_size _) (by rw [hz1]; exact hcs) (by omega) (by omega)
  simp only [execOp, h, Sem.run_bind, List.map_toArray, List.map_cons, List.map_nil, this, Result.andThen_ok, Sem.run_pure]
theorem exBuild' (f : Operand → Value) (d : Option Tmp) (ty : TypeId) (pos : String) (af : Array Edge) (gd : Option (Nat × Bool)) (W : World) (h : f (.tmp 11) = .agg (f (.tmp 11)).cells) (hcs : (f (.tmp 11)).cells.size = 1001) :
    Sem.run Try.prog (execOp f ⟨d, .buildSlice 130 1 #[(0, .tmp 11)], ty, pos, af, gd⟩) W = .ok (.value (.slice (some ⟨W.heap.size, 0, none⟩) 1 1)) (W.alloc (.cells (f (.tmp 11)).cells 134)) :=
  exBuild f d ty pos af gd W _ h hcs
attribute [local go_sem ↓] exBuild'
attribute [local go_sem] rowCells_size

set_option maxRecDepth 100000 in
set_option maxHeartbeats 1000000 in
theorem grownRow_any (base n : Nat) (v : Value) (xs : List Value) (p : Nat → Bool) (w : World) (h : w.ownsRow base 134 1001 v n xs) (hn : Hid (n ≤ 1000)) :
    Calls Try.prog 88 #[v, .agg (rowCells p)] w (RetGrown 134 1001 (n + 1) (xs ++ (rowCells p).toList) w) := by
  obtain ⟨i0, hi0, hz0', hz1', hz2'⟩ := info_parts infoRow
  have hi' := Lib.hid hi0
  have hz0 := Lib.hid hz0'
  have hz1 := Lib.hid hz1'
  have hz2 := Lib.hid hz2'
  clear hi0 hz0' hz1' hz2'
  have hlen := Lib.hid h.1
  rcases h.2 with ⟨rfl, rfl⟩ | ⟨g, cap, cur, rfl, hb, hg, hnc, hcm, hcs, htake⟩
  · have hx : xs = [] := List.eq_nil_of_length_eq_zero (by have := hlen.out; omega)
    subst hx
    clear h
    go_enter Try.func88, Try.ntmps88
    go_wp2_with fail
    have hu := Try.underlying134
    have hs : (Try.prog.info? 134).map (·.size) = some (rowCells p).toList.length := by rw [sizeRow]; simp [rowCells_size]
    go_region_held3 (fun w' => w'.rangeAt w.heap.size 0 (rowCells p).toList) (first | exact range_of_box (Box.drew (Box.new' rfl)) | exact range_of_box (Box.alloc (Box.drew (Box.new' rfl)) _) | exact range_of_box (Box.gb (Box.alloc (Box.drew (Box.new' rfl)) _) hgrow1 (by simp))) (first | (refine step_append_grows rfl (.tmp 10) (.tmp 12) 130 rfl 134 i0 _ 1001 1001 Try.underlying130 hi'.out hz0.out hz1.out hz2.out rowZero_size (by decide) none 0 0 [] (by simp [Act.eval, Act.put]) (fun _ => ⟨rfl, rfl⟩) (by simp) (by simp) ⟨w.heap.size + 1, 0, none⟩ 1 1 (rowCells p).toList (by simp [Act.eval, Act.put]) (by rw [Array.length_toList, rowCells_size]) (cells_row_new _ _ _ _ (by simp)) (rowCells_one p) (by omega) (by have := hn.out; simp [maxLen]; try omega) (by have := hn.out; omega) ?_; intro v' w1 hown1 hgrow1; have HO := Lib.hid hown1; clear hown1))
    go_wp2_with fail
    go_ret
    refine ⟨v', rfl, own_mono HO.out (by simp; try omega), ?_⟩
    refine Below.trans ?_ (gb_to_below (B := w.heap.size) hgrow1 (by simp; try omega) (by simp))
    exact bel
  · have hold := Lib.hid (h.cells (g := g) rfl)
    have hlt : g < w.heap.size := (Array.getElem?_eq_some_iff.1 hg).1
    have HC := Lib.hid hcm
    have HT := Lib.hid htake
    have HS := Lib.hid hcs
    have HH := Lib.hid h
    have HG := Lib.hid hg
    clear hcm htake hcs h hg
    go_enter Try.func88, Try.ntmps88
    go_wp2_with fail
    have hu := Try.underlying134
    have hs : (Try.prog.info? 134).map (·.size) = some (rowCells p).toList.length := by rw [sizeRow]; simp [rowCells_size]
    go_region_held3 (fun w' => w'.rangeAt w.heap.size 0 (rowCells p).toList) (first | exact range_of_box (Box.drew (Box.new' rfl)) | exact range_of_box (Box.alloc (Box.drew (Box.new' rfl)) _) | exact range_of_box (Box.gb (Box.alloc (Box.drew (Box.new' rfl)) _) hgrow1 (by simp))) (first | (refine step_append_grows rfl (.tmp 10) (.tmp 12) 130 rfl 134 i0 _ 1001 1001 Try.underlying130 hi'.out hz0.out hz1.out hz2.out rowZero_size (by decide) (some ⟨g, 0, none⟩) n n xs (by simp [Act.eval, Act.put]) (by simp) hlen.out (cells_later hold.out hlt bel) ⟨w.heap.size + 1, 0, none⟩ 1 1 (rowCells p).toList (by simp [Act.eval, Act.put]) (by rw [Array.length_toList, rowCells_size]) (cells_row_new _ _ _ _ (by simp)) (rowCells_one p) (by omega) (by have := hn.out; simp [maxLen]; try omega) (by have := hn.out; omega) ?_; intro v' w1 hown1 hgrow1; have HO := Lib.hid hown1; clear hown1))
    go_wp2_with fail
    go_ret
    refine ⟨v', rfl, own_mono HO.out (by simp; try omega), ?_⟩
    refine Below.trans ?_ (gb_to_below (B := w.heap.size) hgrow1 (by simp; try omega) (by simp))
    exact bel
end Go.Proofs.Ytigpefjeelgfdaa

/-
  The rows of a course, as a plain function; the cells of a list that a call owns.
-/
namespace Go.Proofs.Ytigpefjeelgfdaa
open Go.RowKit

/-- What the kinks from number 0 to k make of a row. -/
def rowPart (ks : List Kink) (p : Nat → Bool) : Nat → Nat → Bool
  | 0 => fun _ => false
  | k + 1 => if meetsB p (strAt ks k).f1.toNat (strAt ks k).f2.toNat then fun j => rowPart ks p k j || decide ((strAt ks k).t1.toNat ≤ j ∧ j ≤ (strAt ks k).t2.toNat) else rowPart ks p k
/-- The row behind i steps. -/
def rowOf (x : Works) (ways : List Int) (p : Nat → Bool) : Nat → Nat → Bool
  | 0 => p
  | i + 1 => rowPart (wayOf x ways i) (rowOf x ways p i) (wayOf x ways i).length
def rowsTo (R : Nat → Nat → Bool) (n : Nat) : List Value := (List.range n).flatMap fun i => (rowCells (R i)).toList
theorem rowsTo_succ (R : Nat → Nat → Bool) (n : Nat) : rowsTo R (n + 1) = rowsTo R n ++ (rowCells (R n)).toList := by simp [rowsTo, List.range_succ]
theorem flat_get {α : Type} (f : Nat → List α) (s : Nat) (hf : ∀ i, (f i).length = s) : ∀ (n i j : Nat), i < n → j < s → ((List.range n).flatMap f)[i * s + j]? = (f i)[j]?
  | 0, _, _, h, _ => by omega
  | n + 1, i, j, h, hj => by
    have hl : ((List.range n).flatMap f).length = n * s := by
      clear h
      induction n with
      | zero => simp
      | succ n ih => simp [List.range_succ, ih, hf, Nat.succ_mul]
    rw [List.range_succ, List.flatMap_append]
    by_cases hi : i < n
    · rw [List.getElem?_append_left (by rw [hl]; have : (i + 1) * s ≤ n * s := Nat.mul_le_mul_right s hi; rw [Nat.succ_mul] at this; omega)]
      exact flat_get f s hf n i j hi hj
    · have : i = n := by omega
      subst this
      rw [List.getElem?_append_right (by rw [hl]; omega), hl]
      simp

theorem own_slice {w : World} {base n size : Nat} {e : TypeId} {v : Value} {xs : List Value} (h : w.ownsRow base e size v n xs) : ∃ A c, v = .slice A n c := by
  rcases h.2 with ⟨rfl, rfl⟩ | ⟨g, cap, cur, rfl, _⟩
  · exact ⟨none, 0, rfl⟩
  · exact ⟨_, cap, rfl⟩
/-- A list of the call's own that is not empty: where it lies, and what it reads as. -/
theorem own_cells {w : World} {base n size : Nat} {e : TypeId} {v : Value} {xs : List Value} (h : w.ownsRow base e size v n xs) (hn : 0 < n) :
    ∃ g cap, v = .slice (some ⟨g, 0, none⟩) n cap ∧ base ≤ g ∧ g < w.heap.size ∧ n ≤ cap ∧ cap ≤ maxLen ∧ ∀ j u, xs[j]? = some u → w.cell? ⟨g, j, none⟩ = some u := by
  rcases h.2 with ⟨_, rfl⟩ | ⟨g, cap, cur, rfl, hb, hg, hnc, hcm, hcs, htake⟩
  · omega
  · refine ⟨g, cap, rfl, hb, (Array.getElem?_eq_some_iff.1 hg).1, hnc, hcm, fun j u hu => ?_⟩
    rw [cell_of_row w g j cur e (0, 0) hg]
    rw [← htake, List.getElem?_take] at hu
    split at hu
    · simpa using hu
    · cases hu
theorem own_far {w : World} {base n size : Nat} {e : TypeId} {v : Value} {xs : List Value} (h : w.ownsRow base e size v n xs) {p : Addr} (hp : p.block < base) (u : Value) : (w.setCell p u).ownsRow base e size v n xs := by
  refine ⟨h.1, h.2.imp id ?_⟩
  rintro ⟨g, cap, cur, rfl, h3, h4, r⟩
  exact ⟨g, cap, cur, rfl, h3, (Below.heap_setCell w p u g (by omega)).trans h4, r⟩
theorem own_gb {w w' : World} {base n size : Nat} {e : TypeId} {v : Value} {xs : List Value} (h : w.ownsRow base e size v n xs) {row : Option Nat} (k : w.grownBy w' row) (hr : ∀ g, row = some g → g < base) : w'.ownsRow base e size v n xs := by
  refine ⟨h.1, h.2.imp id ?_⟩
  rintro ⟨g, cap, cur, rfl, h3, h4, r⟩
  exact ⟨g, cap, cur, rfl, h3, (k.block g (Array.getElem?_eq_some_iff.1 h4).1 (fun e => by have := hr g e.symm; omega)).trans h4, r⟩
/-- Row i of the rows that lie one behind the other. -/
theorem row_in {w : World} {g n : Nat} {R : Nat → Nat → Bool} (h : ∀ j u, (rowsTo R n)[j]? = some u → w.cell? ⟨g, j, none⟩ = some u) {i : Nat} (hi : i < n) : RowAt w g (i * 1001) (R i) := by
  intro j hj
  refine h _ _ ?_
  rw [rowsTo, flat_get _ 1001 (fun i => by rw [Array.length_toList, rowCells_size]) n i j hi hj, Array.getElem?_toList, rowCells_get, if_pos hj]
/-- Stretch i. -/
theorem str_in {w : World} {g n : Nat} {ks : List Kink} (h : ∀ j u, (strTo ks n)[j]? = some u → w.cell? ⟨g, j, none⟩ = some u) {i : Nat} (hi : i < n) :
    w.cell? ⟨g, i * 4, none⟩ = some (.int .i64 (strAt ks i).f1) ∧ w.cell? ⟨g, i * 4 + 1, none⟩ = some (.int .i64 (strAt ks i).f2) ∧ w.cell? ⟨g, i * 4 + 2, none⟩ = some (.int .i64 (strAt ks i).t1) ∧ w.cell? ⟨g, i * 4 + 3, none⟩ = some (.int .i64 (strAt ks i).t2) := by
  refine ⟨h _ _ ?_, h _ _ ?_, h _ _ ?_, h _ _ ?_⟩
  · exact flat_get _ 4 (fun _ => rfl) n i 0 hi (by omega)
  · exact flat_get _ 4 (fun _ => rfl) n i 1 hi (by omega)
  · exact flat_get _ 4 (fun _ => rfl) n i 2 hi (by omega)
  · exact flat_get _ 4 (fun _ => rfl) n i 3 hi (by omega)
theorem way_ok {ks : List Kink} (h : wayErr ks = 0) : 0 < ks.length ∧ ks.length ≤ 12 ∧ kinksOk ks = true ∧ stepsOk ks = true := by
  unfold wayErr at h
  split at h
  · omega
  split at h
  · omega
  split at h
  · omega
  · rename_i h1 h2 h3
    refine ⟨by omega, by omega, by simpa using h2, by simpa using h3⟩
/-- A stretch of a valid way: its numbers. -/
theorem str_val {ks : List Kink} (h : kinksOk ks = true) {i : Nat} (hi : i < ks.length) :
    ∃ a b c d : Nat, strAt ks i = ⟨a, b, c, d⟩ ∧ a ≤ 1000 ∧ b ≤ 1000 ∧ c ≤ 1000 ∧ d ≤ 1000 := by
  have h1 := allN_iff.1 h i hi
  simp only [kinkOk, Bool.and_eq_true, hardB_iff, isHardB_iff] at h1
  obtain ⟨a, ha⟩ := Int.eq_ofNat_of_zero_le h1.1.1.1
  obtain ⟨c, hc⟩ := Int.eq_ofNat_of_zero_le (show 0 ≤ (kk ks i).lo by omega)
  obtain ⟨d, hd⟩ := Int.eq_ofNat_of_zero_le (show 0 ≤ (kk ks i).hi by omega)
  by_cases hl : i + 1 < ks.length
  · have h2 := allN_iff.1 h (i + 1) hl
    simp only [kinkOk, Bool.and_eq_true, hardB_iff, isHardB_iff, Bool.not_eq_true', decide_eq_false_iff_not, Nat.add_sub_cancel] at h2
    obtain ⟨b, hb⟩ := Int.eq_ofNat_of_zero_le (show 0 ≤ (kk ks (i + 1)).frm - 1 by omega)
    refine ⟨a, b, c, d, ?_, by omega, by omega, by omega, by omega⟩
    simp only [strAt, if_pos hl, ha, hb, hc, hd]
  · refine ⟨a, 1000, c, d, ?_, by omega, by omega, by omega, by omega⟩
    simp only [strAt, if_neg hl, ha, hc, hd]
    rfl
/-! ### The row is cleared -/
theorem infoBit : (Try.prog.info? 5).map (fun i => i.zero) = some (some (.int .u8 0)) := by kernel_rfl
theorem zeroBit (w : World) : (zeroValue 5).run Try.prog w = .ok (.int .u8 0) w := by
  obtain ⟨i, hi, hz⟩ := Option.map_eq_some_iff.1 infoBit
  simp [zeroValue, typeInfo, hi, hz]
theorem zeroRowCells : Builtin.zeroCells (Value.int .u8 0).cells 1001 = rowCells fun _ => false := by
  have h1 : (Value.int .u8 0).cells = #[Value.int .u8 0] := rfl
  have h2 : (#[Value.int .u8 0]).size = 1 := rfl
  have h3 : (#[Value.int .u8 0])[0]! = bit false := rfl
  rw [h1]
  unfold Builtin.zeroCells
  rw [h2]
  simp only [Nat.mod_one, h3, Nat.mul_one]
  unfold rowCells
  generalize 1001 = n
  apply Array.toList_inj.1
  rw [Array.toList_map, Array.toList_range]
theorem zeroRowSize (p : Nat → Bool) : (Builtin.zeroCells (Value.int .u8 0).cells 1001).size = (rowCells p).size := by rw [zeroRowCells, rowCells_size, rowCells_size]
theorem zeroRowOne : ∀ v ∈ (Builtin.zeroCells (Value.int .u8 0).cells 1001).toList, v.oneCell' = true := by rw [zeroRowCells]; exact rowCells_one _
end Go.Proofs.Ytigpefjeelgfdaa


namespace Go.Proofs.Ytigpefjeelgfdaa
open Go.RowKit
theorem steps_few {x : Works} (h : worksErr x = 0) : x.steps.length ≤ 6 := by
  have h1 := (worksOk_iff.1 h).1
  simp only [manyOk, Bool.and_eq_true, Bool.not_eq_true', decide_eq_false_iff_not] at h1
  omega
theorem wayOf_err {x : Works} {bar : Int} {ways : List Int} (ok : RecOk x bar ways) {i : Nat} (hi : i < x.steps.length) : wayErr (wayOf x ways i) = 0 := by
  have hin := ok.ways i (by rw [ok.len]; exact hi)
  obtain ⟨ws, hws⟩ : ∃ ws, x.steps[i]? = some ws := ⟨_, List.getElem?_eq_getElem hi⟩
  simp only [wayIn, stepAt_of (Lib.hid hws), decide_eq_true_eq] at hin
  obtain ⟨m, hm⟩ := Int.eq_ofNat_of_zero_le hin.1
  have hml : m < ws.length := by omega
  have hks : ws[m]? = some ws[m] := List.getElem?_eq_getElem hml
  have : wayOf x ways i = ws[m] := by simp only [wayOf, stepAt_of (Lib.hid hws), hm, Int.toNat_natCast, kinksAt_of (Lib.hid hks)]
  rw [this]
  exact wayErr_of ok.works hws hks

theorem wrapS {k n : Nat} (h : k < n) (hn : n ≤ 6) : wrap64 ((k : Int) + 1) = ((k + 1 : Nat) : Int) := by unfold wrap64; omega
theorem measS {k n : Nat} (h : k < n) (hn : n ≤ 6) : n - (intOf (Value.int .i64 (wrap64 ((k : Int) + 1)))).toNat < n - (intOf (Value.int .i64 (k : Int))).toNat := by rw [wrapS h hn]; simp only [intOf, Int.toNat_natCast]; omega
/-- What can be had of the bar. -/
def barP (x : Works) (m : Nat) : Nat → Bool := fun j => false || decide ((rgAt x.bars m).1.toNat ≤ j ∧ j ≤ (rgAt x.bars m).2.toNat)
/-- A course in new memory, with the rows R 0 to R steps. -/
def RetRows (Ab As Ar : Option Addr) (cb cs cr : Nat) (x : Works) (m : Nat) (ways : List Int) (R : Nat → Nat → Bool) (B c : Nat) (w w' : World) : Prop :=
  ∃ vr, Course w' c Ab As Ar cb cs cr x m ways vr ∧ B ≤ c ∧ Hid (w'.ownsRow (c + 1) 134 1001 vr (x.steps.length + 1) (rowsTo R (x.steps.length + 1))) ∧ Below B w w'
def RetCourse (Ab As Ar : Option Addr) (cb cs cr : Nat) (x : Works) (m : Nat) (ways : List Int) (w : World) (e : Ending) (w' : World) : Prop :=
  ∃ c, e = .returned (.pointer (some ⟨c, 0, none⟩)) ∧ RetRows Ab As Ar cb cs cr x m ways (rowOf x ways (barP x m)) w.heap.size c w w'

set_option maxRecDepth 100000 in
set_option maxHeartbeats 1000000 in
theorem follow_any (Ab As Ar : Option Addr) (cb cs cr : Nat) (x : Works) (m : Nat) (ways : List Int) (B : Nat) (w : World) (h : In w B Ab As Ar cb cs cr x ways) (ok : RecOk x m ways) :
    Calls Try.prog 61 #[.agg #[.slice Ab x.bars.length cb, .slice As x.steps.length cs], .agg #[.int .i64 m, .slice Ar ways.length cr]] w
      (RetCourse Ab As Ar cb cs cr x m ways w) := by
  have hmb : m < x.bars.length := by have := ok.bar1; omega
  obtain ⟨b0, o0, lo0, hi0, rfl, hb0, hx0, e0, e1⟩ := rgsA h.bars hmb
  obtain ⟨q1, q2, q3⟩ := bar_of ok.works hx0.out
  simp only at q1 q2 q3
  have hbp : barP x m = fun j => false || decide (lo0.toNat ≤ j ∧ j ≤ hi0.toNat) := by unfold barP; rw [rgAt_of hx0]
  obtain ⟨lo, rfl⟩ := Int.eq_ofNat_of_zero_le q1
  obtain ⟨hi, rfl⟩ := Int.eq_ofNat_of_zero_le (show 0 ≤ hi0 by omega)
  have hhi : hi ≤ 1000 := by omega
  have hB := h.le
  have hbw : b0 < w.heap.size := by omega
  have hmb' : (m : Int) < (x.bars.length : Int) := by omega
  clear q1 q2 q3
  go_enter Try.func61, Try.ntmps61
  go_wp2_with fail
  generalize hW : (((w.alloc (.cells #[.slice (some ⟨b0, o0, none⟩) x.bars.length cb, .slice As x.steps.length cs] 25)).alloc (.cells #[.int .i64 m, .slice Ar ways.length cr] 42)).alloc (.cells #[.slice (some ⟨b0, o0, none⟩) x.bars.length cb, .slice As x.steps.length cs, .int .i64 m, .slice Ar ways.length cr, .slice none 0 0] 132)).alloc (.cells Try.zeroCells134 134) = W0
  have hb0' : Below w.heap.size w W0 := by rw [← hW]; exact bel
  have hc0 : Course W0 (w.heap.size + 1 + 1) (some ⟨b0, o0, none⟩) As Ar cb cs cr x m ways (.slice none 0 0) := by rw [← hW]; unfold Course; exact bxt
  have hn0 : Box W0 (w.heap.size + 1 + 1 + 1) 134 (rowCells fun _ => false) := by rw [← hW, ← zeroRow]; exact bxt
  clear hW
  obtain ⟨u0, u1, u2, u3, u4, u5⟩ := hc0.cells
  have z1 := Box.lt hc0
  have z2 := hn0.lt
  have z3 : b0 < W0.heap.size := by have := hb0'.size; omega
  have e0' := (hb0'.cell (p := ⟨b0, o0 + m * 2, none⟩) hbw).trans e0
  have e1' := (hb0'.cell (p := ⟨b0, o0 + m * 2 + 1, none⟩) hbw).trans e1
  refine wp_region_later_tail 12 (by kernel_rfl) (by kernel_rfl) ?_; simp only [List.take_succ_cons, List.take_zero, List.drop_succ_cons, List.drop_zero]; have _hl := later_reads (W0); (repeat (go_big_quiet_step (fail))); refine wpQuiet_nil ?_; intro W1 hw'; have hb_W1 := later_below hw'; clear hw' _hl
  have hn1 : Box W1 (w.heap.size + 1 + 1 + 1) 134 (rowCells fun _ => false) := hn0.below hb_W1 z2
  have hc1 : Course W1 (w.heap.size + 1 + 1) (some ⟨b0, o0, none⟩) As Ar cb cs cr x m ways (.slice none 0 0) := Box.below hc0 hb_W1 z1
  have hb1' : Below w.heap.size w W1 := hb0'.trans (hb_W1.mono (by have := hb0'.size; omega))
  clear u0 u1 u2 u3 u4 u5 z1 z2 z3 e0' e1' hn0 hc0 hb0' hb_W1
  go_wp2_with (go_at_call 87; refine (fill_any (w.heap.size + 1 + 1 + 1) 134 _ lo hi _ hn1 hhi).mono ?_; rintro e W2 ⟨rfl, hg2, hn2⟩)
  generalize hp0 : (fun j => false || decide (lo ≤ j ∧ j ≤ hi)) = p0 at hn2
  have Hp0 := Lib.hid (hbp.trans (by simp only [Int.toNat_natCast]; exact hp0))
  clear hp0 hbp
  have hc2 : Course W2 (w.heap.size + 1 + 1) (some ⟨b0, o0, none⟩) As Ar cb cs cr x m ways (.slice none 0 0) := Box.gb hc1 hg2 (by simp)
  have hb2' : Below w.heap.size w W2 := hb1'.trans (gb_to_below hg2 hb1'.size (by simp; omega))
  clear hn1 hc1 hb1' hg2
  obtain ⟨u0, u1, u2, u3, u4, u5⟩ := hc2.cells
  have z1 := Box.lt hc2
  have z2 := hn2.lt
  refine wp_region_held_drew (S := fun w' => w'.rangeAt (w.heap.size + 1 + 1 + 1) 0 (rowCells p0).toList) (by kernel_rfl) (range_of_box (Box.drew hn2)) (fun hH => ?_)
  refine wpAnyH_take (i := 0) (v := ?_) rfl (by kernel_rfl) (by kernel_rfl) (by kernel_rfl) (fun _ _ _ h => h) (Or.inl ⟨by rfl, ?_⟩) (by assumption) ?_; rotate_left; (focus (intro _w _hSw; clear _hSw; (try simp only [Array.getInternal_eq_getElem, List.getElem_toArray, List.getElem_cons_zero, List.getElem_cons_succ]); go_simp; (try with_reducible rfl))); simp only [Array.getInternal_eq_getElem, List.getElem_toArray, List.getElem_cons_zero, List.getElem_cons_succ, Act.put, List.setIfInBounds_toArray, List.set_cons_zero, List.set_cons_succ]
  refine wpAnyH_take (i := 1) (v := ?_) rfl (by kernel_rfl) (by kernel_rfl) (by kernel_rfl) (fun _ _ _ h => h) (Or.inl ⟨by rfl, ?_⟩) (by assumption) ?_; rotate_left; (focus (intro _w _hSw; clear _hSw; (try simp only [Array.getInternal_eq_getElem, List.getElem_toArray, List.getElem_cons_zero, List.getElem_cons_succ]); go_simp; (try with_reducible rfl))); simp only [Array.getInternal_eq_getElem, List.getElem_toArray, List.getElem_cons_zero, List.getElem_cons_succ, Act.put, List.setIfInBounds_toArray, List.set_cons_zero, List.set_cons_succ]
  refine wpAnyH_take (i := 2) (v := ?_) rfl (by kernel_rfl) (by kernel_rfl) (by kernel_rfl) (fun _ _ _ h => h) (Or.inl ⟨by rfl, ?_⟩) (by assumption) ?_; rotate_left; (focus (intro _w _hSw; clear _hSw; (try simp only [Array.getInternal_eq_getElem, List.getElem_toArray, List.getElem_cons_zero, List.getElem_cons_succ]); go_simp; (try with_reducible rfl))); simp only [Array.getInternal_eq_getElem, List.getElem_toArray, List.getElem_cons_zero, List.getElem_cons_succ, Act.put, List.setIfInBounds_toArray, List.set_cons_zero, List.set_cons_succ]
  refine wpAnyH_take (i := 3) (v := ?_) rfl (by kernel_rfl) (by kernel_rfl) (by kernel_rfl) (fun _ _ _ h => h) (Or.inl ⟨by rfl, ?_⟩) (by assumption) ?_; rotate_left; (focus (intro _w _hSw; clear _hSw; (try simp only [Array.getInternal_eq_getElem, List.getElem_toArray, List.getElem_cons_zero, List.getElem_cons_succ]); go_simp; (try with_reducible rfl))); simp only [Array.getInternal_eq_getElem, List.getElem_toArray, List.getElem_cons_zero, List.getElem_cons_succ, Act.put, List.setIfInBounds_toArray, List.set_cons_zero, List.set_cons_succ]
  refine wpAnyH_take (i := 5) rfl (by kernel_rfl) (by kernel_rfl) (by kernel_rfl) (fun _ _ _ h => h) (yieldsIf_load_mid (by rfl) _ _ rfl (w.heap.size + 1 + 1 + 1) 0 rfl _ _ (fun _ _hS => _hS) Try.underlying134 rfl (by rw [Array.length_toList, rowCells_size]; exact sizeRow)) (by assumption) ?_; simp only [Array.getInternal_eq_getElem, List.getElem_toArray, List.getElem_cons_zero, List.getElem_cons_succ, Act.put, List.setIfInBounds_toArray, List.set_cons_zero, List.set_cons_succ]
  refine wpAnyH_ready (rs := [4]) (by kernel_rfl) (by simp) ?_; refine AllReadyH.cons rfl (fun K hK => ?_) AllReadyH.nil; (try simp only [Array.getInternal_eq_getElem, List.getElem_toArray, List.getElem_cons_zero, List.getElem_cons_succ])
  go_simp
  refine hK.out _ _ (range_of_box (Box.drew hn2)) (fun _ => ?_)
  clear hK K
  try simp only [Act.put, List.setIfInBounds_toArray, List.set_cons_zero, List.set_cons_succ]
  refine wpAnyH_ready (rs := [6]) (by kernel_rfl) (by simp) ?_; refine AllReadyH.cons rfl (fun K hK => ?_) AllReadyH.nil; (try simp only [Array.getInternal_eq_getElem, List.getElem_toArray, List.getElem_cons_zero, List.getElem_cons_succ])
  go_simp
  refine (grownRow_any w.heap.size 0 _ [] p0 _ ⟨rfl, Or.inl ⟨rfl, rfl⟩⟩ (Lib.hid (by omega))).mono ?_
  rintro e W3 ⟨v3, rfl, hown3, hb3⟩
  obtain ⟨a3, k3, rfl⟩ := own_slice hown3
  refine hK.out _ _ (range_of_box (Box.below (Box.drew hn2) hb3 z2)) (fun hH3 => ?_)
  clear hK K
  try simp only [Act.put, List.setIfInBounds_toArray, List.set_cons_zero, List.set_cons_succ]
  have hc3 : Course W3 (w.heap.size + 1 + 1) (some ⟨b0, o0, none⟩) As Ar cb cs cr x m ways (.slice none 0 0) := Box.below (Box.drew hc2) hb3 z1
  have hn3 : Box W3 (w.heap.size + 1 + 1 + 1) 134 (rowCells p0) := Box.below (Box.drew hn2) hb3 z2
  have hb3' : Below w.heap.size w W3 := (Below.drew hb2').trans (Below.mono hb3 (Below.drew hb2').size)
  clear u0 u1 u2 u3 u4 u5
  obtain ⟨u0, u1, u2, u3, u4, u5⟩ := hc3.cells
  refine wpAnyH_take (i := 7) (v := ?_) rfl (by kernel_rfl) (by kernel_rfl) (by kernel_rfl) (fun _ _ _ h => h) (Or.inl ⟨by rfl, ?_⟩) (by assumption) ?_; rotate_left; (focus (intro _w _hSw; clear _hSw; (try simp only [Array.getInternal_eq_getElem, List.getElem_toArray, List.getElem_cons_zero, List.getElem_cons_succ]); go_simp; (try with_reducible rfl))); simp only [Array.getInternal_eq_getElem, List.getElem_toArray, List.getElem_cons_zero, List.getElem_cons_succ, Act.put, List.setIfInBounds_toArray, List.set_cons_zero, List.set_cons_succ]
  refine wpAnyH_take (i := 8) (v := ?_) rfl (by kernel_rfl) (by kernel_rfl) (by kernel_rfl) (fun _ _ _ h => h) (Or.inl ⟨by rfl, ?_⟩) (by assumption) ?_; rotate_left; (focus (intro _w _hSw; clear _hSw; (try simp only [Array.getInternal_eq_getElem, List.getElem_toArray, List.getElem_cons_zero, List.getElem_cons_succ]); go_simp; (try with_reducible rfl))); simp only [Array.getInternal_eq_getElem, List.getElem_toArray, List.getElem_cons_zero, List.getElem_cons_succ, Act.put, List.setIfInBounds_toArray, List.set_cons_zero, List.set_cons_succ]
  refine wpAnyH_ready (rs := [9]) (by kernel_rfl) (by simp) ?_; refine AllReadyH.cons rfl (fun K hK => ?_) AllReadyH.nil; (try simp only [Array.getInternal_eq_getElem, List.getElem_toArray, List.getElem_cons_zero, List.getElem_cons_succ])
  go_simp
  refine hK.out _ _ (range_of_box (Box.far hn3 (by simp) _)) (fun _ => ?_)
  clear hK K
  refine wpAnyH_done (by kernel_rfl) ?_ _
  have hc4 : Course (W3.setCell ⟨w.heap.size + 1 + 1, 4, none⟩ (.slice a3 (0 + 1) k3)) (w.heap.size + 1 + 1) (some ⟨b0, o0, none⟩) As Ar cb cs cr x m ways (.slice a3 (0 + 1) k3) := Box.set_ hc3 4 _
  have hn4 : Box (W3.setCell ⟨w.heap.size + 1 + 1, 4, none⟩ (.slice a3 (0 + 1) k3)) (w.heap.size + 1 + 1 + 1) 134 (rowCells p0) := Box.far hn3 (by simp) _
  have ho4 : (W3.setCell ⟨w.heap.size + 1 + 1, 4, none⟩ (.slice a3 (0 + 1) k3)).ownsRow (w.heap.size + 1 + 1 + 1 + 1) 134 1001 (.slice a3 (0 + 1) k3) (0 + 1) (rowsTo (rowOf x ways p0) (0 + 1)) := by
    rw [rowsTo_succ]
    exact own_mono (own_far hown3 z1 _) z2
  have hb4 : Below w.heap.size w (W3.setCell ⟨w.heap.size + 1 + 1, 4, none⟩ (.slice a3 (0 + 1) k3)) := bel
  generalize W3.setCell ⟨w.heap.size + 1 + 1, 4, none⟩ (.slice a3 (0 + 1) k3) = W4 at hc4 hn4 ho4 hb4 ⊢
  have HO4 := Lib.hid ho4
  clear u0 u1 u2 u3 u4 u5 z1 z2 hc3 hn3 hb3 hb3' hown3 hH hH3 hc2 hn2 hb2' ho4
  obtain ⟨u0, u1, u2, u3, u4, u5⟩ := hc4.cells
  go_wp2_with fail
  clear u0 u1 u2 u3 u4 u5
  go_loopw [42] (fun i wr => ∃ (k : Nat) (vr : Value), k ≤ x.steps.length ∧ i = .int .i64 k ∧ Course wr (w.heap.size + 1 + 1) (some ⟨b0, o0, none⟩) As Ar cb cs cr x m ways vr ∧ Hid (wr.ownsRow (w.heap.size + 1 + 1 + 1 + 1) 134 1001 vr (k + 1) (rowsTo (rowOf x ways p0) (k + 1))) ∧ (∃ p, Box wr (w.heap.size + 1 + 1 + 1) 134 (rowCells p)) ∧ Below w.heap.size w wr)
    (fun i _ => x.steps.length - (intOf i).toNat)
  case atStart =>
    exact ⟨0, _, by omega, rfl, hc4, HO4, ⟨_, hn4⟩, hb4⟩
  case round =>
    obtain ⟨k, vr, hk, rfl, hc, ho, ⟨pn, hn⟩, hb⟩ := hrel
    by_cases hlt : k < x.steps.length
    · obtain ⟨u0, u1, u2, u3, u4, u5⟩ := hc.cells
      have z1 := Box.lt hc
      have z2 := hn.lt
      have hwl := way_ok (wayOf_err ok hlt)
      obtain ⟨gr, cr', rfl, hgr, hgr', hcr1, hcr2, hrd⟩ := own_cells ho.out (by omega)
      go_wp2_with (first | (refine wpList_clear_row (o := ⟨none, _, _, _, _, _⟩) rfl (.tmp 45) 66 rfl 5 (.int .u8 0) Try.underlying66 zeroBit (w.heap.size + 1 + 1 + 1) 1001 1001 rfl (rowCells pn) 134 hn (zeroRowSize pn) zeroRowOne (by decide) ?_; intro w5 hn5 hg5; rw [zeroRowCells] at hn5; have hc5 : Course w5 (w.heap.size + 1 + 1) (some ⟨b0, o0, none⟩) As Ar cb cs cr x m ways _ := Box.gb hc hg5 (by simp); clear u0 u1 u2 u3 u4 u5) | (go_at_call 90; refine (way_any (w.heap.size + 1 + 1) (some ⟨b0, o0, none⟩) As Ar cb cs cr x m ways _ B k w5 (h.on (hb.trans (gb_to_below hg5 hb.size (by simp; omega))) hB) ok hc5 hlt).mono ?_; rintro e w6 ⟨A6, k6, rfl, hk6, hl6, hm6, he6, hb6⟩) | (go_at_call 89; refine (stretches_any A6 k6 _ B w6 (kinks_on hk6 hb6 (by have := hb.size; have := hg5.size; omega)) hl6 hm6 (by have := hb.size; have := hg5.size; have := hb6.size; omega) (kinksVal_of hwl.2.2.1) (Lib.hid hwl.2.1)).mono ?_; rintro e w7 ⟨v7, rfl, ho7, hb7⟩; obtain ⟨g7, c7, rfl, hg7, hg7', hl7, hm7, hs7⟩ := own_cells ho7 hwl.1))
      have hb67 : Below w5.heap.size w5 w7 := hb6.trans (hb7.mono hb6.size)
      have hn7 := Box.below hn5 hb67 hn5.lt
      have hc7 : Course w7 (w.heap.size + 1 + 1) (some ⟨b0, o0, none⟩) As Ar cb cs cr x m ways _ := Box.below hc5 hb67 (Box.lt hc5)
      have hg57 : wr.grownBy w7 (some (w.heap.size + 1 + 1 + 1)) := gb_below hg5 hb67
      have ho7' := Lib.hid (own_gb ho.out hg57 (by simp))
      have hz57 := hg57.size
      have hz7 : w5.heap.size ≤ w6.heap.size := hb6.size
      have hb0 := hb.size
      have hz5 := hg5.size
      have hw7 : Below w.heap.size w w7 := hb.trans (gb_to_below hg57 hb0 (by simp; omega))
      generalize hP : rowOf x ways p0 k = P
      have HP := Lib.hid hP
      clear hP
      have hrow : RowAt w7 gr (k * 1001) P := by
        have := row_in hrd (i := k) (by omega)
        rw [HP.out] at this
        intro j hj
        rw [← this j hj]
        exact (gb_reads hg57).1 gr _ hgr' (by omega)
      generalize hK : wayOf x ways k = ks at hwl hl6 hm6 hk6 he6 ho7 hl7 hs7 ⊢
      have HK := Lib.hid hK
      clear hK
      go_loopw [51] (fun i wi => ∃ (t : Nat), t ≤ ks.length ∧ i = .int .i64 t ∧ w7.grownBy wi (some (w.heap.size + 1 + 1 + 1)) ∧ Box wi (w.heap.size + 1 + 1 + 1) 134 (rowCells (rowPart ks P t)))
        (fun i _ => ks.length - (intOf i).toNat)
      case atStart =>
        exact ⟨0, by omega, rfl, gb_refl _ _, hn7⟩
      case round =>
        obtain ⟨t, ht, rfl, hgi, hni⟩ := hrel
        by_cases hlt2 : t < ks.length
        · obtain ⟨sa, sb, sc, sd, hst, q1, q2, q3, q4⟩ := str_val hwl.2.2.1 hlt2
          obtain ⟨s0, s1, s2, s3⟩ := str_in hs7 hlt2
          rw [hst] at s0 s1 s2 s3
          have hST := Lib.hid hst
          clear hst
          obtain ⟨r1, r2⟩ := gb_reads hgi
          have s0' := (r1 g7 (t * 4) hg7' (by omega)).trans s0
          have s1' := (r1 g7 (t * 4 + 1) hg7' (by omega)).trans s1
          have s2' := (r1 g7 (t * 4 + 2) hg7' (by omega)).trans s2
          have s3' := (r1 g7 (t * 4 + 3) hg7' (by omega)).trans s3
          have hsi := hgi.size
          have l1 : (t : Int) < (ks.length : Int) := by omega
          have l2 : g7 < wr.heap.size := by omega
          clear s0 s1 s2 s3 r1 r2
          go_wp2_with fail
          have hcx : Course (wr.alloc (.cells #[.int .i64 sa, .int .i64 sb, .int .i64 sc, .int .i64 sd] 141)) (w.heap.size + 1 + 1) (some ⟨b0, o0, none⟩) As Ar cb cs cr x m ways _ := Box.alloc (Box.gb hc7 hgi (by simp)) _
          have hnx : Box (wr.alloc (.cells #[.int .i64 sa, .int .i64 sb, .int .i64 sc, .int .i64 sd] 141)) (w.heap.size + 1 + 1 + 1) 134 (rowCells (rowPart ks P t)) := Box.alloc hni _
          have hsx : Box (wr.alloc (.cells #[.int .i64 sa, .int .i64 sb, .int .i64 sc, .int .i64 sd] 141)) wr.heap.size 141 #[.int .i64 sa, .int .i64 sb, .int .i64 sc, .int .i64 sd] := Box.new _ _ _
          have hgx : w7.grownBy (wr.alloc (.cells #[.int .i64 sa, .int .i64 sb, .int .i64 sc, .int .i64 sd] 141)) (some (w.heap.size + 1 + 1 + 1)) := gb_alloc hgi _
          have hrx : RowAt (wr.alloc (.cells #[.int .i64 sa, .int .i64 sb, .int .i64 sc, .int .i64 sd] 141)) gr (k * 1001) P := by
            intro j hj
            rw [← hrow j hj]
            exact (gb_reads hgx).1 gr _ (by omega) (by omega)
          have hgs := hsx.lt
          generalize wr.alloc (.cells #[.int .i64 sa, .int .i64 sb, .int .i64 sc, .int .i64 sd] 141) = wx at hcx hnx hsx hgx hrx hgs ⊢
          obtain ⟨u0, u1, u2, u3, u4, u5⟩ := hcx.cells
          have t0 : wx.cell? ⟨wr.heap.size, 0, none⟩ = some (.int .i64 sa) := hsx.cell 0
          have t1 : wx.cell? ⟨wr.heap.size, 0 + 1, none⟩ = some (.int .i64 sb) := hsx.cell 1
          have z3 := Box.lt hcx
          have z4 : gr < wx.heap.size := by omega
          have l3 : (k : Int) < ((k + 1 : Nat) : Int) := by omega
          refine wp_region_later (by kernel_rfl) (by kernel_rfl) ?_; have _hl := later_reads (wx); (repeat (go_big_quiet_step ((go_at_call 91; exact LaterW.callsB (fun W hbW => meets_any gr (k * 1001) P sa sb W (hrx.on hbW z4) (by have := hbW.size; omega) q2))))); refine wpQuiet_nil ?_; intro w8 hw'; have hb_w8 := later_below hw'; clear hw' _hl
          have hn8 := Box.below hnx hb_w8 hnx.lt
          have hs8 := Box.below hsx hb_w8 hgs
          have hg8 : w7.grownBy w8 (some (w.heap.size + 1 + 1 + 1)) := gb_below hgx hb_w8
          have hz8 := hb_w8.size
          clear u0 u1 u2 u3 u4 u5 t0 t1 hcx hnx hsx hgx hrx hb_w8
          have t2 : w8.cell? ⟨wr.heap.size, 0 + 2, none⟩ = some (.int .i64 sc) := hs8.cell 2
          have t3 : w8.cell? ⟨wr.heap.size, 0 + 2 + 1, none⟩ = some (.int .i64 sd) := hs8.cell 3
          have hrp : rowPart ks P (t + 1) = if meetsB P sa sb then fun j => rowPart ks P t j || decide (sc ≤ j ∧ j ≤ sd) else rowPart ks P t := by
            simp only [rowPart, hST.out, Int.toNat_natCast]
          cases hmt : meetsB P sa sb
          · rw [hmt, if_neg (by simp)] at hrp
            have HRP := Lib.hid hrp
            clear hrp
            go_wp2_with fail
            go_roundw
            case rel => exact ⟨t + 1, by omega, by go_num, hg8, by rw [HRP.out]; exact hn8⟩
            case measure => simp [intOf]; omega
          · rw [hmt, if_pos rfl] at hrp
            have HRP := Lib.hid hrp
            clear hrp
            go_wp2_with (go_at_call 87; refine (fill_any (w.heap.size + 1 + 1 + 1) 134 _ sc sd _ hn8 q4).mono ?_; rintro e w9 ⟨rfl, hg9, hn9⟩)
            go_roundw
            case rel => exact ⟨t + 1, by omega, by go_num, gb_trans hg8 hg9 (Or.inl rfl), by rw [HRP.out]; exact hn9⟩
            case measure => simp [intOf]; omega
        · obtain rfl : t = ks.length := by omega
          have hcw : Course wr (w.heap.size + 1 + 1) (some ⟨b0, o0, none⟩) As Ar cb cs cr x m ways _ := Box.gb hc7 hgi (by simp)
          have how := own_gb ho7'.out hgi (by simp)
          have hww : Below w.heap.size w wr := hw7.trans (gb_to_below hgi (by omega) (by simp; omega))
          have z3 := Box.lt hcw
          have z4 := hni.lt
          have hro : rowOf x ways p0 (k + 1) = rowPart ks P ks.length := by
            show rowPart (wayOf x ways k) (rowOf x ways p0 k) (wayOf x ways k).length = _
            rw [HK.out, HP.out]
          generalize rowPart ks P ks.length = PN at hni hro
          have HRO := Lib.hid hro
          clear hro
          obtain ⟨u0, u1, u2, u3, u4, u5⟩ := hcw.cells
          go_wp2_with fail
          refine wp_region_held_drew (S := fun w' => w'.rangeAt (w.heap.size + 1 + 1 + 1) 0 (rowCells PN).toList) (by kernel_rfl) (range_of_box (Box.drew hni)) (fun hH => ?_)
          refine wpAnyH_take (i := 0) (v := ?_) rfl (by kernel_rfl) (by kernel_rfl) (by kernel_rfl) (fun _ _ _ h => h) (Or.inl ⟨by rfl, ?_⟩) (by assumption) ?_; rotate_left; (focus (intro _w _hSw; clear _hSw; (try simp only [Array.getInternal_eq_getElem, List.getElem_toArray, List.getElem_cons_zero, List.getElem_cons_succ]); go_simp; (try with_reducible rfl))); simp only [Array.getInternal_eq_getElem, List.getElem_toArray, List.getElem_cons_zero, List.getElem_cons_succ, Act.put, List.setIfInBounds_toArray, List.set_cons_zero, List.set_cons_succ]
          refine wpAnyH_take (i := 1) (v := ?_) rfl (by kernel_rfl) (by kernel_rfl) (by kernel_rfl) (fun _ _ _ h => h) (Or.inl ⟨by rfl, ?_⟩) (by assumption) ?_; rotate_left; (focus (intro _w _hSw; clear _hSw; (try simp only [Array.getInternal_eq_getElem, List.getElem_toArray, List.getElem_cons_zero, List.getElem_cons_succ]); go_simp; (try with_reducible rfl))); simp only [Array.getInternal_eq_getElem, List.getElem_toArray, List.getElem_cons_zero, List.getElem_cons_succ, Act.put, List.setIfInBounds_toArray, List.set_cons_zero, List.set_cons_succ]
          refine wpAnyH_take (i := 2) (v := ?_) rfl (by kernel_rfl) (by kernel_rfl) (by kernel_rfl) (fun _ _ _ h => h) (Or.inl ⟨by rfl, ?_⟩) (by assumption) ?_; rotate_left; (focus (intro _w _hSw; clear _hSw; (try simp only [Array.getInternal_eq_getElem, List.getElem_toArray, List.getElem_cons_zero, List.getElem_cons_succ]); go_simp; (try with_reducible rfl))); simp only [Array.getInternal_eq_getElem, List.getElem_toArray, List.getElem_cons_zero, List.getElem_cons_succ, Act.put, List.setIfInBounds_toArray, List.set_cons_zero, List.set_cons_succ]
          refine wpAnyH_take (i := 3) (v := ?_) rfl (by kernel_rfl) (by kernel_rfl) (by kernel_rfl) (fun _ _ _ h => h) (Or.inl ⟨by rfl, ?_⟩) (by assumption) ?_; rotate_left; (focus (intro _w _hSw; clear _hSw; (try simp only [Array.getInternal_eq_getElem, List.getElem_toArray, List.getElem_cons_zero, List.getElem_cons_succ]); go_simp; (try with_reducible rfl))); simp only [Array.getInternal_eq_getElem, List.getElem_toArray, List.getElem_cons_zero, List.getElem_cons_succ, Act.put, List.setIfInBounds_toArray, List.set_cons_zero, List.set_cons_succ]
          refine wpAnyH_take (i := 5) rfl (by kernel_rfl) (by kernel_rfl) (by kernel_rfl) (fun _ _ _ h => h) (yieldsIf_load_mid (by rfl) _ _ rfl (w.heap.size + 1 + 1 + 1) 0 rfl _ _ (fun _ _hS => _hS) Try.underlying134 rfl (by rw [Array.length_toList, rowCells_size]; exact sizeRow)) (by assumption) ?_; simp only [Array.getInternal_eq_getElem, List.getElem_toArray, List.getElem_cons_zero, List.getElem_cons_succ, Act.put, List.setIfInBounds_toArray, List.set_cons_zero, List.set_cons_succ]
          refine wpAnyH_ready (rs := [4]) (by kernel_rfl) (by simp) ?_; refine AllReadyH.cons rfl (fun K hK => ?_) AllReadyH.nil; (try simp only [Array.getInternal_eq_getElem, List.getElem_toArray, List.getElem_cons_zero, List.getElem_cons_succ])
          go_simp
          refine hK.out _ _ (range_of_box (Box.drew hni)) (fun _ => ?_)
          clear hK
          try simp only [Act.put, List.setIfInBounds_toArray, List.set_cons_zero, List.set_cons_succ]
          refine wpAnyH_ready (rs := [6]) (by kernel_rfl) (by simp) ?_; refine AllReadyH.cons rfl (fun K hK => ?_) AllReadyH.nil; (try simp only [Array.getInternal_eq_getElem, List.getElem_toArray, List.getElem_cons_zero, List.getElem_cons_succ])
          go_simp
          refine (grownRow_any (w.heap.size + 1 + 1 + 1 + 1) (k + 1) _ _ PN wr.drew how (Lib.hid (by have := steps_few ok.works; omega))).mono ?_
          rintro e wa ⟨va, rfl, howna, hba⟩
          obtain ⟨aa, ka, rfl⟩ := own_slice howna
          refine hK.out _ _ (range_of_box (Box.below (Box.drew hni) hba z4)) (fun hH3 => ?_)
          clear hK
          try simp only [Act.put, List.setIfInBounds_toArray, List.set_cons_zero, List.set_cons_succ]
          have hca : Course wa (w.heap.size + 1 + 1) (some ⟨b0, o0, none⟩) As Ar cb cs cr x m ways _ := Box.below (Box.drew hcw) hba z3
          have hna : Box wa (w.heap.size + 1 + 1 + 1) 134 (rowCells PN) := Box.below (Box.drew hni) hba z4
          have hbwa : Below w.heap.size w wa := (Below.drew hww).trans (Below.mono hba (Below.drew hww).size)
          clear u0 u1 u2 u3 u4 u5
          obtain ⟨u0, u1, u2, u3, u4, u5⟩ := hca.cells
          refine wpAnyH_take (i := 7) (v := ?_) rfl (by kernel_rfl) (by kernel_rfl) (by kernel_rfl) (fun _ _ _ h => h) (Or.inl ⟨by rfl, ?_⟩) (by assumption) ?_; rotate_left; (focus (intro _w _hSw; clear _hSw; (try simp only [Array.getInternal_eq_getElem, List.getElem_toArray, List.getElem_cons_zero, List.getElem_cons_succ]); go_simp; (try with_reducible rfl))); simp only [Array.getInternal_eq_getElem, List.getElem_toArray, List.getElem_cons_zero, List.getElem_cons_succ, Act.put, List.setIfInBounds_toArray, List.set_cons_zero, List.set_cons_succ]
          refine wpAnyH_take (i := 8) (v := ?_) rfl (by kernel_rfl) (by kernel_rfl) (by kernel_rfl) (fun _ _ _ h => h) (Or.inl ⟨by rfl, ?_⟩) (by assumption) ?_; rotate_left; (focus (intro _w _hSw; clear _hSw; (try simp only [Array.getInternal_eq_getElem, List.getElem_toArray, List.getElem_cons_zero, List.getElem_cons_succ]); go_simp; (try with_reducible rfl))); simp only [Array.getInternal_eq_getElem, List.getElem_toArray, List.getElem_cons_zero, List.getElem_cons_succ, Act.put, List.setIfInBounds_toArray, List.set_cons_zero, List.set_cons_succ]
          refine wpAnyH_ready (rs := [9]) (by kernel_rfl) (by simp) ?_; refine AllReadyH.cons rfl (fun K hK => ?_) AllReadyH.nil; (try simp only [Array.getInternal_eq_getElem, List.getElem_toArray, List.getElem_cons_zero, List.getElem_cons_succ])
          go_simp
          refine hK.out _ _ (range_of_box (Box.far hna (by simp) _)) (fun _ => ?_)
          clear hK
          refine wpAnyH_done (by kernel_rfl) ?_ _
          go_wp2_with fail
          go_roundw
          case rel =>
            refine ⟨k + 1, _, hlt, congrArg _ (wrapS hlt (steps_few ok.works)), Box.set_ hca 4 _, ?_, ⟨_, Box.far hna (by simp) _⟩, bel⟩
            rw [rowsTo_succ, HRO.out]
            exact Lib.hid (own_mono (own_far howna z3 _) z4)
          case measure =>
            exact measS hlt (steps_few ok.works)
    · obtain rfl : k = x.steps.length := by omega
      obtain ⟨u0, u1, u2, u3, u4, u5⟩ := hc.cells
      go_wp2_with fail
      go_ret
      refine ⟨w.heap.size + 1 + 1, rfl, _, hc, by omega, ?_, hb⟩
      rw [Hp0.out]
      exact Lib.hid (own_mono ho.out (by omega))
end Go.Proofs.Ytigpefjeelgfdaa

/-
  Walks of layer 1: the ends of all rows of a course.
-/
namespace Go.Proofs.Ytigpefjeelgfdaa
open Go.RowKit

/-- The ends of what is set ahead of k, reckoned. -/
def endsUpto (p : Nat → Bool) : Nat → Nat × Nat
  | 0 => (1000, 0)
  | k + 1 => if p k then (min (endsUpto p k).1 k, k) else endsUpto p k
theorem endsUpto_is (p : Nat → Bool) : ∀ k, k ≤ 1001 → EndsTo p k (endsUpto p k).1 (endsUpto p k).2
  | 0, _ => EndsTo.zero p
  | k + 1, h => by
    unfold endsUpto
    cases hk : p k
    · exact (endsUpto_is p k (by omega)).no hk
    · exact (endsUpto_is p k (by omega)).yes hk (by omega)
theorem EndsTo.one {p : Nat → Bool} {k a b c d : Nat} (h : EndsTo p k a b) (h' : EndsTo p k c d) : a = c ∧ b = d := by
  rcases h with ⟨h1, h2, h3⟩ | ⟨h1, h2, h3, h4, h5⟩
  · rcases h' with ⟨g1, g2, g3⟩ | ⟨g1, g2, g3, g4, g5⟩
    · omega
    · rw [h1 c g2] at g1; cases g1
  · rcases h' with ⟨g1, g2, g3⟩ | ⟨g1, g2, g3, g4, g5⟩
    · rw [g1 a h2] at h1; cases h1
    · have := h5 c g2 g1; have := h5 d g4 g3; have := g5 a h2 h1; have := g5 b h4 h3; omega
/-- The ends of a row. -/
def endsOf (p : Nat → Bool) : Nat × Nat := endsUpto p 1001
theorem endsOf_of {p : Nat → Bool} {a b : Nat} (h : EndsTo p 1001 a b) : a = (endsOf p).1 ∧ b = (endsOf p).2 := h.one (endsUpto_is p 1001 (by omega))
def endCells (p : Nat → Bool) : List Value := [.int .i64 (endsOf p).1, .int .i64 (endsOf p).2]
def endsTo (R : Nat → Nat → Bool) (n : Nat) : List Value := (List.range n).flatMap fun i => endCells (R i)
theorem endsTo_succ (R : Nat → Nat → Bool) (n : Nat) : endsTo R (n + 1) = endsTo R n ++ endCells (R n) := by simp [endsTo, List.range_succ]
theorem endsTo_one (R : Nat → Nat → Bool) (n : Nat) : ∀ u ∈ endsTo R n, u.oneCell' = true := by
  intro u hu
  simp only [endsTo, List.mem_flatMap, endCells, List.mem_cons, List.not_mem_nil, or_false] at hu
  obtain ⟨_, _, rfl | rfl⟩ := hu <;> rfl
theorem wrapN {k n : Nat} (h : k < n) (hn : Hid (n ≤ 1000)) : wrap64 ((k : Int) + 1) = ((k + 1 : Nat) : Int) := by have := hn.out; unfold wrap64; omega
theorem measN {k n : Nat} (h : k < n) (hn : Hid (n ≤ 1000)) : n - (intOf (Value.int .i64 (wrap64 ((k : Int) + 1)))).toNat < n - (intOf (Value.int .i64 (k : Int))).toNat := by rw [wrapN h hn]; simp only [intOf, Int.toNat_natCast]; omega

set_option maxHeartbeats 1000000 in
theorem courseEnds_any (c : Nat) (Ab As Ar : Option Addr) (cb cs cr : Nat) (x : Works) (m : Nat) (ways : List Int) (vr : Value) (base n : Nat) (R : Nat → Nat → Bool) (w : World)
    (hc : Course w c Ab As Ar cb cs cr x m ways vr) (ho : Hid (w.ownsRow base 134 1001 vr n (rowsTo R n))) (hn : Hid (n ≤ 1000)) (hn0 : 0 < n) :
    Calls Try.prog 62 #[.pointer (some ⟨c, 0, none⟩)] w (RetGrown 33 2 n (endsTo R n) w) := by
  obtain ⟨g, cap, rfl, hg, hg', hcr1, hcr2, hrd⟩ := own_cells ho.out hn0
  obtain ⟨u0, u1, u2, u3, u4, u5⟩ := hc.cells
  have hz := Box.lt hc
  have HO := ho
  clear ho
  go_enter Try.func62, Try.ntmps62
  go_wp2_with fail
  clear u0 u1 u2 u3 u4 u5
  go_loopw [3, 10] (fun v i wr => ∃ (k : Nat), k ≤ n ∧ i = .int .i64 k ∧ Hid (wr.ownsRow w.heap.size 33 2 v k (endsTo R k)) ∧ Below w.heap.size w wr)
    (fun _ i _ => n - (intOf i).toNat)
  case atStart =>
    exact ⟨0, by omega, rfl, Lib.hid (World.ownsRow_nil _ _ _ _), Below.refl _ _⟩
  case round =>
    obtain ⟨k, hk, rfl, ho, hb⟩ := hrel
    by_cases hlt : k < n
    · obtain ⟨u0, u1, u2, u3, u4, u5⟩ := Course.cells (Box.below hc hb hz)
      have hz1 := hb.size
      have hrow : RowAt wr g (k * 1001) (R k) := (row_in hrd hlt).on hb hg'
      have hlt' : (k : Int) < (n : Int) := by omega
      have hgw : g < wr.heap.size := by omega
      have hW := wrapN hlt hn
      go_wp2_with (first | (go_at_call 93; refine (rowEnds_any g (k * 1001) (R k) wr hrow hgw).mono ?_; rintro e w2 ⟨lo, hi, rfl, hlh, hb2⟩) | (go_at_call 92; refine (grownRange_any w.heap.size k _ _ lo hi w2 (own_later ho.out hb2) (Lib.hid (by have := hn.out; omega))).mono ?_; rintro e w3 ⟨v3, rfl, ho3, hb3⟩; have HO3 := Lib.hid ho3; clear ho3))
      go_roundw
      case rel =>
        refine ⟨k + 1, hlt, congrArg _ hW, ?_, ?_⟩
        · rw [endsTo_succ, endCells, ← (endsOf_of hlh).1, ← (endsOf_of hlh).2]
          exact Lib.hid (own_mono HO3.out (by have := hb2.size; omega))
        · exact hb.trans ((hb2.mono hz1).trans (hb3.mono (by have := hb2.size; omega)))
      case measure => exact measN hlt hn
    · obtain rfl : k = n := by omega
      go_wp2_with (go_at_call 94; refine (takenRange_any w.heap.size k _ _ wr ho.out hn (Lib.hid (endsTo_one R k))).mono ?_; rintro e w2 ⟨v2, rfl, ho2, hb2⟩; have HO2 := Lib.hid ho2; clear ho2)
      go_ret
      exact ⟨_, rfl, own_mono HO2.out hb.size, hb.trans (hb2.mono hb.size)⟩
end Go.Proofs.Ytigpefjeelgfdaa

/-
  Walks of layer 1, tenth part: histories.
-/
namespace Go.Proofs.Ytigpefjeelgfdaa
open Go.RowKit

set_option maxHeartbeats 1000000 in
theorem heatCheckHistory_ok (Ab As Ar Ah : Option Addr) (cb cs cr ch : Nat) (x : Works) (bar : Int) (ways hist : List Int) (B : Nat) (w : World) (h : In w B Ab As Ar cb cs cr x ways)
    (hh : IntsA .i64 w B Ah hist) (ch1 : hist.length ≤ ch) (ch2 : ch ≤ 9223372036854775807) (G : Hid (recErr x bar ways = 0)) (hl : Hid (hist.length = x.steps.length + 1)) :
    Calls Try.prog 26 #[.agg #[.slice Ab x.bars.length cb, .slice As x.steps.length cs], .agg #[.int .i64 bar, .slice Ar ways.length cr], .slice Ah hist.length ch] w
      fun e w' => e = .returned (.int .i64 (histErr x bar ways hist)) ∧ Below w.heap.size w w' := by
  have bad : Hid (∀ k, k < hist.length → histOk x bar ways hist k = false → histErr x bar ways hist = 16) := fun k hk h4 => histErr_no G.out hl.out hk h4
  have fin : Hid (allN (histOk x bar ways hist) hist.length = true → histErr x bar ways hist = 0) := histErr_ok G.out hl.out
  have ok := recOk_iff.1 G.out
  obtain ⟨m, hbar⟩ := Int.eq_ofNat_of_zero_le ok.bar0
  subst hbar
  have hmb : m < x.bars.length := by have := ok.bar1; omega
  obtain ⟨b0, o0, lo0, hi0, rfl, hb0, hx0, e0, e1⟩ := rgsA h.bars hmb
  have hw0 : Hid (within x m ways hist 0 = (lo0, hi0)) := by simp only [Hid, within, Int.toNat_natCast, rgAt_of hx0]
  have hB := h.le
  have hbw : b0 < w.heap.size := by omega
  have hne : ((hist.length : Int) != (x.steps.length : Int) + 1) = false := by have := hl.out; simp; omega
  have hsl : x.steps.length ≤ 9223372036854775806 := by have := hl.out; omega
  go_enter Try.func26, Try.ntmps26
  go_wp2_with (go_at_call 60; refine (checkRecipe_any _ _ _ _ _ _ x m ways B _ (h.on (n := w.heap.size) bel hB)).mono ?_; rintro e w1 ⟨rfl, hb1⟩; rw [G.out]; obtain ⟨_hr1, _hr2⟩ := below_reads hb1; have _hz := Below.size hb1; (try simp only [World.size_alloc, World.size_setCell, World.size_drew, World.heap_drewN] at _hz); obtain ⟨_hr3, _hr4⟩ := below_reads (show Below w.heap.size w w1 from bel); have _q0 : w.heap.size < w1.heap.size := (by omega); have _q1 : w.heap.size + 1 < w1.heap.size := (by omega))
  go_loopw [9, 10, 32] (fun _ _ i wr => ∃ (k : Nat) (lo hi : Int), k ≤ hist.length ∧ i = .int .i64 k ∧ UptoN (histOk x m ways hist) k ∧ Hid (k < hist.length → within x m ways hist k = (lo, hi)) ∧ Below w.heap.size w wr ∧
      Box wr w1.heap.size 33 #[.int .i64 lo, .int .i64 hi] ∧ Box wr w.heap.size 25 #[.slice (some ⟨b0, o0, none⟩) x.bars.length cb, .slice As x.steps.length cs] ∧ Box wr (w.heap.size + 1) 42 #[.int .i64 m, .slice Ar ways.length cr])
    (fun _ _ i _ => hist.length - (intOf i).toNat)
  case atStart =>
    refine ⟨0, lo0, hi0, by omega, rfl, UptoN.zero _, fun _ => hw0.out, bel, ?_, ?_, ?_⟩
    all_goals exact bxt
  case round =>
    obtain ⟨k, lo, hi, hk, rfl, hup, hwi, hbl, bo, bw, br⟩ := hrel
    obtain ⟨u1, u2, u3, u4⟩ := bo.two
    obtain ⟨u5, u6, u7, u8⟩ := bw.two
    obtain ⟨t5, t6, t7, t8⟩ := br.two
    have hz := bo.lt
    have hz1 := bw.lt
    have hz2 := br.lt
    by_cases hlt : k < hist.length
    · obtain ⟨b, off, n, rfl, hb, hx, d0⟩ := intsA (ints_on hh hbl hB) hlt
      have hbr : b < wr.heap.size := by omega
      have hwk := hwi.out hlt
      by_cases p : inB n lo hi = true
      · have okk : Hid (histOk x m ways hist k = true) := by simp only [Hid, histOk, hwk, intAt_of hx]; exact p
        have P := Lib.hid p
        clear p
        by_cases hlast : k < x.steps.length
        · obtain ⟨b1, o1, b2, o2, b3, o3, A1, A2, c1, c2, ws, mm, ks, rfl, rfl, rfl, hb1', hb2', hb3', hm, f1, f2, f3, l1, l2, l3, l4, hks, hwo, hwe, hne0, _⟩ := way_at h.steps h.rways ok hlast
          have f1' := (hbl.cell (p := ⟨b1, o1 + k, none⟩) (by simp only []; omega)).trans f1
          have f2' := (hbl.cell (p := ⟨b2, o2 + k, none⟩) (by simp only []; omega)).trans f2
          have f3' := (hbl.cell (p := ⟨b3, o3 + mm, none⟩) (by simp only []; omega)).trans f3
          have v1 : b1 < wr.heap.size := by omega
          have v2 : b2 < wr.heap.size := by omega
          have v3 : b3 < wr.heap.size := by omega
          go_wp2_with (go_at_call 65; refine (contains_any _ _ _ _).mono ?_; rintro e w2 ⟨rfl, hb2⟩; rw [P.out]; obtain ⟨_hr1, _hr2⟩ := below_reads hb2; have _hz := Below.size hb2; (try simp only [World.size_alloc, World.size_setCell, World.size_drew, World.heap_drewN] at _hz))
          have s1 : w.heap.size < w2.heap.size := by omega
          have s2 : w.heap.size + 1 < w2.heap.size := by omega
          have s3 : b1 < w2.heap.size := by omega
          have s4 : b2 < w2.heap.size := by omega
          have s5 : b3 < w2.heap.size := by omega
          have s6 : w1.heap.size < w2.heap.size := by omega
          have s7 : (k : Int) < (ways.length : Int) := by have := ok.len; omega
          have s8 : (mm : Int) < (ws.length : Int) := by omega
          have s9 : (k : Int) < (x.steps.length : Int) := by omega
          refine wp_region_later_tail 14 (by kernel_rfl) (by kernel_rfl) ?_; simp only [List.take_succ_cons, List.take_zero, List.drop_succ_cons, List.drop_zero]; have _hl := later_reads (w2); (repeat (go_big_quiet_step (fail))); refine wpQuiet_nil ?_; intro w3 hw'; have hb_w3 := later_below hw'; clear hw' _hl
          obtain ⟨_hr1, _hr2⟩ := below_reads hb_w3; have _hz := Below.size hb_w3; (try simp only [World.size_alloc, World.size_setCell, World.size_drew, World.heap_drewN] at _hz)
          have r1 : w.heap.size < w3.heap.size := by omega
          have r2 : w.heap.size + 1 < w3.heap.size := by omega
          have r3 : b3 < w3.heap.size := by omega
          have r4 : w1.heap.size < w3.heap.size := by omega
          have wk : Hid (k + 1 < hist.length → within x m ways hist (k + 1) = ((aft ks n).1, (aft ks n).2)) := fun _ => by
            show aft (wayOf x ways k) (intAt hist k) = _
            rw [hwo.out, intAt_of hx]
          go_wp2_with (go_at_call 54; refine (heatAfter_any _ _ ks n B _ (kinks_on hks (n := w.heap.size) bel hB) l3 l4 (by (focus (first | omega | (simp only [World.size_alloc, World.size_setCell, World.size_drew, World.heap_drewN]; first | done | omega)))) hne0).mono ?_; rintro e w4 ⟨rfl, hb4⟩; obtain ⟨_hr1, _hr2⟩ := below_reads hb4; have _hz := Below.size hb4; (try simp only [World.size_alloc, World.size_setCell, World.size_drew, World.heap_drewN] at _hz); have r5 : w1.heap.size < w4.heap.size := (by omega))
          go_roundw
          case rel =>
            refine ⟨k + 1, (aft ks n).1, (aft ks n).2, by omega, by go_num, hup.succ okk.out, wk.out, bel, ?_, ?_, ?_⟩
            all_goals exact bxt
          case measure => simp [intOf]; omega
        · go_wp2_with (go_at_call 65; refine (contains_any _ _ _ _).mono ?_; rintro e w2 ⟨rfl, hb2⟩; rw [P.out]; obtain ⟨_hr1, _hr2⟩ := below_reads hb2; have _hz := Below.size hb2; (try simp only [World.size_alloc, World.size_setCell, World.size_drew, World.heap_drewN] at _hz))
          go_roundw
          case rel =>
            refine ⟨k + 1, lo, hi, by omega, by go_num, hup.succ okk.out, fun hc => absurd hc (by have := hl.out; omega), bel, ?_, ?_, ?_⟩
            all_goals exact bxt
          case measure => simp [intOf]; omega
      · have p' : inB n lo hi = false := by simpa using p
        have R : Hid (histErr x m ways hist = 16) := bad.out k hlt (by simp only [histOk, hwk, intAt_of hx]; exact p')
        have P := Lib.hid p'
        clear p p'
        go_wp2_with (go_at_call 65; refine (contains_any _ _ _ _).mono ?_; rintro e w2 ⟨rfl, hb2⟩; rw [P.out]; obtain ⟨_hr1, _hr2⟩ := below_reads hb2; have _hz := Below.size hb2; (try simp only [World.size_alloc, World.size_setCell, World.size_drew, World.heap_drewN] at _hz))
        go_ret
        exact ⟨ret_int R.out.symm, bel⟩
    · have R : Hid (histErr x m ways hist = 0) := fin.out (hup.done (by omega))
      go_wp2_with fail
      go_ret
      exact ⟨ret_int R.out.symm, bel⟩

set_option maxHeartbeats 1000000 in
theorem heatCheckHistory_any (Ab As Ar Ah : Option Addr) (cb cs cr ch : Nat) (x : Works) (bar : Int) (ways hist : List Int) (B : Nat) (w : World) (h : In w B Ab As Ar cb cs cr x ways)
    (hh : IntsA .i64 w B Ah hist) (ch1 : hist.length ≤ ch) (ch2 : ch ≤ 9223372036854775807) :
    Calls Try.prog 26 #[.agg #[.slice Ab x.bars.length cb, .slice As x.steps.length cs], .agg #[.int .i64 bar, .slice Ar ways.length cr], .slice Ah hist.length ch] w
      fun e w' => e = .returned (.int .i64 (histErr x bar ways hist)) ∧ Below w.heap.size w w' := by
  by_cases g1 : recErr x bar ways = 0
  · by_cases g2 : hist.length = x.steps.length + 1
    · exact heatCheckHistory_ok Ab As Ar Ah cb cs cr ch x bar ways hist B w h hh ch1 ch2 g1 g2
    · have R : Hid (histErr x bar ways hist = 15) := histErr_len g1 g2
      have G := Lib.hid g1
      have hB := h.le
      have l6 : x.steps.length ≤ 6 := by
        have := (worksOk_iff.1 (recOk_iff.1 g1).works).1
        simp only [manyOk, Bool.and_eq_true, Bool.not_eq_true', decide_eq_false_iff_not] at this
        omega
      have hne : ((hist.length : Int) != (x.steps.length : Int) + 1) = true := by simp; omega
      clear g1 g2
      go_enter Try.func26, Try.ntmps26
      go_wp2_with (go_at_call 60; refine (checkRecipe_any _ _ _ _ _ _ x bar ways B _ (h.on (n := w.heap.size) bel hB)).mono ?_; rintro e w1 ⟨rfl, hb1⟩; rw [G.out]; obtain ⟨_hr1, _hr2⟩ := below_reads hb1; have _hz := Below.size hb1; (try simp only [World.size_alloc, World.size_setCell, World.size_drew, World.heap_drewN] at _hz); obtain ⟨_hr3, _hr4⟩ := below_reads (show Below w.heap.size w w1 from bel); have _q0 : w.heap.size < w1.heap.size := (by omega); have _q1 : w.heap.size + 1 < w1.heap.size := (by omega))
      go_ret
      exact ⟨ret_int R.out.symm, bel⟩
  · have R : Hid (histErr x bar ways hist = recErr x bar ways) := histErr_rec g1
    have hB := h.le
    have g1' : (recErr x bar ways != 0) = true := by simp [g1]
    clear g1
    go_enter Try.func26, Try.ntmps26
    go_wp2_with (go_at_call 60; refine (checkRecipe_any _ _ _ _ _ _ x bar ways B _ (h.on (n := w.heap.size) bel hB)).mono ?_; rintro e w1 ⟨rfl, hb1⟩; obtain ⟨_hr1, _hr2⟩ := below_reads hb1; have _hz := Below.size hb1; (try simp only [World.size_alloc, World.size_setCell, World.size_drew, World.heap_drewN] at _hz); obtain ⟨_hr3, _hr4⟩ := below_reads (show Below w.heap.size w w1 from bel); have _q0 : w.heap.size < w1.heap.size := (by omega); have _q1 : w.heap.size + 1 < w1.heap.size := (by omega))
    go_ret
    exact ⟨ret_int R.out.symm, bel⟩
end Go.Proofs.Ytigpefjeelgfdaa

/-
  Walks of layer 1: Ranges.
-/
namespace Go.Proofs.Ytigpefjeelgfdaa
open Go.RowKit

/-- A list of the call's own and an error: nil, where there is one. -/
def RetList (t : TypeId) (size : Nat) (err : Int) (n : Nat) (xs : List Value) (w : World) (e : Ending) (w' : World) : Prop :=
  ∃ v, e = .returned (.tuple #[v, .int .i64 err]) ∧ (err = 0 → Hid (w'.ownsRow w.heap.size t size v n xs)) ∧ (err ≠ 0 → v = .slice none 0 0) ∧ Below w.heap.size w w'

set_option maxHeartbeats 1000000 in
theorem heatRanges_any (Ab As Ar : Option Addr) (cb cs cr : Nat) (x : Works) (bar : Int) (ways : List Int) (B : Nat) (w : World) (h : In w B Ab As Ar cb cs cr x ways) :
    Calls Try.prog 23 #[.agg #[.slice Ab x.bars.length cb, .slice As x.steps.length cs], .agg #[.int .i64 bar, .slice Ar ways.length cr]] w
      (RetList 33 2 (recErr x bar ways) (x.steps.length + 1) (endsTo (rowOf x ways (barP x bar.toNat)) (x.steps.length + 1)) w) := by
  have hB := h.le
  by_cases g1 : recErr x bar ways = 0
  · have ok := recOk_iff.1 g1
    obtain ⟨m, hbar⟩ := Int.eq_ofNat_of_zero_le ok.bar0
    subst hbar
    have hs6 := steps_few ok.works
    have h6 : Hid (x.steps.length + 1 ≤ 1000) := Lib.hid (by omega)
    clear hs6
    rw [g1]
    have G := Lib.hid g1
    clear g1
    simp only [Int.toNat_natCast]
    go_enter Try.func23, Try.ntmps23
    go_wp2_with (first
      | (go_at_call 60; refine (checkRecipe_any _ _ _ _ _ _ x m ways B _ (h.on (n := w.heap.size) bel hB)).mono ?_; rintro e w1 ⟨rfl, hb1⟩; rw [G.out]; obtain ⟨_hr1, _hr2⟩ := below_reads hb1; have _hz := Below.size hb1; (try simp only [World.size_alloc, World.size_setCell, World.size_drew, World.heap_drewN] at _hz); obtain ⟨_hr3, _hr4⟩ := below_reads (show Below w.heap.size w w1 from bel); have _q0 : w.heap.size < w1.heap.size := (by omega); have _q1 : w.heap.size + 1 < w1.heap.size := (by omega))
      | (go_at_call 61; refine (follow_any _ _ _ _ _ _ x m ways B _ (h.on (n := w.heap.size) bel hB) ok).mono ?_; rintro e w2 ⟨c, rfl, vr, hc, hBc, ho, hb2⟩; obtain ⟨_hr1, _hr2⟩ := below_reads hb2; have _hz := Below.size hb2; (try simp only [World.size_alloc, World.size_setCell, World.size_drew, World.heap_drewN] at _hz); obtain ⟨_hr3, _hr4⟩ := below_reads (show Below w.heap.size w w2 from bel); have _q0 : w.heap.size < w2.heap.size := (by omega); have _q1 : w.heap.size + 1 < w2.heap.size := (by omega))
      | (go_at_call 62; refine (courseEnds_any c _ _ _ _ _ _ x m ways vr (c + 1) _ _ w2 hc ho h6 (by omega)).mono ?_; rintro e w3 ⟨v3, rfl, ho3, hb3⟩; have HO3 := Lib.hid ho3; clear ho3))
    refine bodyPost_ret (v := .tuple #[v3, .int .i64 0]) (by simp [results, Try.results23, go_sem, *]) rfl ?_
    exact ⟨v3, rfl, fun _ => Lib.hid (own_mono HO3.out (by omega)), fun h => absurd rfl h, bel⟩
  · have g1' : (recErr x bar ways != 0) = true := by simp [g1]
    have G := Lib.hid g1
    clear g1
    go_enter Try.func23, Try.ntmps23
    go_wp2_with (go_at_call 60; refine (checkRecipe_any _ _ _ _ _ _ x bar ways B _ (h.on (n := w.heap.size) bel hB)).mono ?_; rintro e w1 ⟨rfl, hb1⟩; obtain ⟨_hr1, _hr2⟩ := below_reads hb1; have _hz := Below.size hb1; (try simp only [World.size_alloc, World.size_setCell, World.size_drew, World.heap_drewN] at _hz); obtain ⟨_hr3, _hr4⟩ := below_reads (show Below w.heap.size w w1 from bel); have _q0 : w.heap.size < w1.heap.size := (by omega); have _q1 : w.heap.size + 1 < w1.heap.size := (by omega))
    refine bodyPost_ret (v := .tuple #[.slice none 0 0, .int .i64 (recErr x bar ways)]) (by simp [results, Try.results23, go_sem, *]) rfl ?_
    exact ⟨_, rfl, fun h => absurd h G.out, fun _ => rfl, bel⟩
end Go.Proofs.Ytigpefjeelgfdaa

/-
  Walks of layer 1: what is not wanted is taken out of a row.
-/
namespace Go.Proofs.Ytigpefjeelgfdaa
open Go.RowKit

theorem own_at {w : World} {base n size g cap : Nat} {e : TypeId} {xs : List Value} (h : w.ownsRow base e size (.slice (some ⟨g, 0, none⟩) n cap) n xs) :
    base ≤ g ∧ g < w.heap.size ∧ (∀ j u, xs[j]? = some u → w.cell? ⟨g, j, none⟩ = some u) ∧ (∀ j, w.frozen? ⟨g, j, none⟩ = false) := by
  rcases h.2 with ⟨h1, _⟩ | ⟨g', cap', cur, hv, hb, hg, hnc, hcm, hcs, htake⟩
  · cases h1
  · obtain ⟨rfl, rfl⟩ : g = g' ∧ cap = cap' := by simp at hv; exact hv
    refine ⟨hb, (Array.getElem?_eq_some_iff.1 hg).1, fun j u hu => ?_, fun j => ?_⟩
    · rw [cell_of_row w g j cur e (0, 0) hg]
      rw [← htake, List.getElem?_take] at hu
      split at hu
      · simpa using hu
      · cases hu
    · simp [World.frozen?, hg]
theorem own_set {w : World} {base n size g cap : Nat} {e : TypeId} {xs : List Value} (h : w.ownsRow base e size (.slice (some ⟨g, 0, none⟩) n cap) n xs) {i : Nat} (hi : i < xs.length) (u : Value) :
    (w.setCell ⟨g, i, none⟩ u).ownsRow base e size (.slice (some ⟨g, 0, none⟩) n cap) n (xs.set i u) := by
  refine ⟨by rw [List.length_set]; exact h.1, ?_⟩
  rcases h.2 with ⟨h1, _⟩ | ⟨g', cap', cur, hv, hb, hg, hnc, hcm, hcs, htake⟩
  · cases h1
  · obtain ⟨rfl, rfl⟩ : g = g' ∧ cap = cap' := by simp at hv; exact hv
    refine .inr ⟨g, cap, cur.setIfInBounds i u, rfl, hb, ?_, hnc, hcm, by simpa using hcs, ?_⟩
    · simp [World.setCell, Array.getElem?_modify, hg]
    · rw [Array.toList_setIfInBounds, List.take_set, htake]
/-- Row s of R, but for what is not wanted there. -/
def keepR (R : Nat → Nat → Bool) (s : Nat) (q : Nat → Bool) (i j : Nat) : Bool := if i = s then R i j && q j else R i j
def keepTo (R : Nat → Nat → Bool) (s : Nat) (q : Nat → Bool) (k : Nat) : Nat → Nat → Bool := keepR R s fun j => q j || decide (k ≤ j)
theorem keepTo_zero (R : Nat → Nat → Bool) (s : Nat) (q : Nat → Bool) : keepTo R s q 0 = R := by
  funext i j
  simp [keepTo, keepR]
theorem rowsTo_congr {R R' : Nat → Nat → Bool} {n : Nat} (h : ∀ i j, i < n → j < 1001 → R i j = R' i j) : rowsTo R n = rowsTo R' n := by
  induction n with
  | zero => simp only [rowsTo, List.range_zero, List.flatMap_nil]
  | succ n ih =>
    have e : rowCells (R n) = rowCells (R' n) := by
      unfold rowCells
      rw [List.map_congr_left fun j hj => by rw [h n j (by omega) (List.mem_range.1 hj)]]
    rw [rowsTo_succ, rowsTo_succ, ih (fun i j hi hj => h i j (by omega) hj), e]
theorem keepTo_end (R : Nat → Nat → Bool) (s : Nat) (q : Nat → Bool) (n : Nat) : rowsTo (keepTo R s q 1001) n = rowsTo (keepR R s q) n := by
  refine rowsTo_congr fun i j _ hj => ?_
  have : ¬ 1001 ≤ j := by omega
  simp [keepTo, keepR, this]
theorem rowsTo_length (R : Nat → Nat → Bool) (n : Nat) : (rowsTo R n).length = n * 1001 := by
  induction n with
  | zero => simp [rowsTo]
  | succ n ih => rw [rowsTo_succ, List.length_append, ih, Array.length_toList, rowCells_size]; omega
theorem rowsTo_get (R : Nat → Nat → Bool) (n : Nat) {i j : Nat} (hi : i < n) (hj : j < 1001) : (rowsTo R n)[i * 1001 + j]? = some (bit (R i j)) := by
  rw [rowsTo, flat_get _ 1001 (fun i => by rw [Array.length_toList, rowCells_size]) n i j hi hj, Array.getElem?_toList, rowCells_get, if_pos hj]
theorem rowsTo_set (R : Nat → Nat → Bool) (n : Nat) {i j : Nat} (hi : i < n) (hj : j < 1001) : (rowsTo R n).set (i * 1001 + j) (bit false) = rowsTo (fun a b => if a = i ∧ b = j then false else R a b) n := by
  apply List.ext_getElem?
  intro t
  by_cases ht : t < n * 1001
  · have hd : t = t / 1001 * 1001 + t % 1001 := by omega
    have h1 : t / 1001 < n := by omega
    have h2 : t % 1001 < 1001 := by omega
    have e2 := rowsTo_get (fun a b => if a = i ∧ b = j then false else R a b) n h1 h2
    rw [← hd] at e2
    rw [e2]
    by_cases hij : t / 1001 = i ∧ t % 1001 = j
    · have : i * 1001 + j = t := by omega
      rw [this, List.getElem?_set_self (by rw [rowsTo_length]; exact ht), if_pos hij]
    · have : i * 1001 + j ≠ t := by omega
      rw [List.getElem?_set_ne this, if_neg hij]
      have e3 := rowsTo_get R n h1 h2
      rw [← hd] at e3
      exact e3
  · rw [List.getElem?_eq_none (by rw [List.length_set, rowsTo_length]; omega), List.getElem?_eq_none (by rw [rowsTo_length]; omega)]
theorem keepTo_yes (R : Nat → Nat → Bool) (s : Nat) (q : Nat → Bool) (k n : Nat) (h : q k = true) : rowsTo (keepTo R s q k) n = rowsTo (keepTo R s q (k + 1)) n := by
  refine rowsTo_congr fun i j _ _ => ?_
  unfold keepTo keepR
  by_cases hi : i = s
  · rw [if_pos hi, if_pos hi]
    by_cases hj : j = k
    · subst hj; simp [h]
    · have : k ≤ j ↔ k + 1 ≤ j := by omega
      simp [this]
  · rw [if_neg hi, if_neg hi]
theorem keepTo_no (R : Nat → Nat → Bool) (s : Nat) (q : Nat → Bool) (k n : Nat) (hs : s < n) (hk : k < 1001) (h : q k = false) : (rowsTo (keepTo R s q k) n).set (s * 1001 + k) (bit false) = rowsTo (keepTo R s q (k + 1)) n := by
  rw [rowsTo_set _ _ hs hk]
  refine rowsTo_congr fun i j _ _ => ?_
  unfold keepTo keepR
  by_cases hi : i = s
  · rw [if_pos hi, if_pos hi]
    by_cases hj : j = k
    · subst hj
      have : ¬ j + 1 ≤ j := by omega
      simp [h, hi, this]
    · have : k ≤ j ↔ k + 1 ≤ j := by omega
      simp [this, hj]
  · rw [if_neg hi, if_neg hi, if_neg (fun h => hi h.1)]

set_option maxHeartbeats 400000 in
theorem agreeing1_any (gm : Nat) (t : TypeId) (lo hi h : Int) (w : World) (hm : Box w gm t #[.int .i64 lo, .int .i64 hi]) :
    Calls Try.prog 96 #[.int .i64 h, .pointer (some ⟨gm, 0, none⟩)] w fun e w' => e = .returned (.bool (inB h lo hi)) ∧ Below w.heap.size w w' := by
  obtain ⟨u1, u2, u3, u4⟩ := hm.two
  go_enter Try.func96, Try.ntmps96
  go_wp2_with (go_at_call 65; refine (contains_any h lo hi _).mono ?_; rintro e w1 ⟨rfl, hb1⟩)
  go_ret
  exact ⟨rfl, hb1⟩

set_option maxHeartbeats 1000000 in
theorem keepIn_any (base n s g cap : Nat) (R : Nat → Nat → Bool) (gm : Nat) (t : TypeId) (lo hi : Int) (w : World) (ho : Hid (w.ownsRow base 134 1001 (.slice (some ⟨g, 0, none⟩) n cap) n (rowsTo R n))) (hs : s < n)
    (hm : Box w gm t #[.int .i64 lo, .int .i64 hi]) (hgm : gm ≠ g) :
    Calls Try.prog 106 #[.pointer (some ⟨g, s * 1001, none⟩), .func (.func 96) #[] #[.pointer (some ⟨gm, 0, none⟩)]] w
      fun e w' => e = .returned (.tuple #[]) ∧ w.grownBy w' (some g) ∧ Hid (w'.ownsRow base 134 1001 (.slice (some ⟨g, 0, none⟩) n cap) n (rowsTo (keepR R s fun j => inB j lo hi) n)) := by
  obtain ⟨N, hN⟩ : ∃ N : Nat, Hid (N = 1001) := ⟨1001, rfl⟩
  obtain ⟨q, hq⟩ : ∃ q : Nat → Bool, Hid ((fun j : Nat => inB j lo hi) = q) := ⟨_, rfl⟩
  rw [hq.out]
  have hg0 := (own_at ho.out).2.1
  go_enter Try.func106, Try.ntmps106
  go_wp2
  go_loopw [5] (fun i wr => ∃ (k : Nat), k ≤ N ∧ i = .int .i64 k ∧ w.grownBy wr (some g) ∧ Hid (wr.ownsRow base 134 1001 (.slice (some ⟨g, 0, none⟩) n cap) n (rowsTo (keepTo R s q k) n)))
    (fun i _ => N - (intOf i).toNat)
  case atStart =>
    exact ⟨0, by omega, rfl, gb_refl _ _, by rw [keepTo_zero]; exact ho⟩
  case round =>
    obtain ⟨k, hk, rfl, hgr, hor⟩ := hrel
    by_cases hlt : k < N
    · have hlt2 : (k : Int) < 1001 := by have := hN.out; omega
      have hlt3 : k < 1001 := by have := hN.out; omega
      have hqk : q k = inB k lo hi := by rw [← hq.out]
      cases hb : inB k lo hi
      · rw [hb] at hqk
        have HB := Lib.hid hb
        clear hb
        go_wp2_with (go_at_call 96; refine (agreeing1_any gm t lo hi k wr (Box.gb hm hgr (by simpa using hgm))).mono ?_; rintro e w2 ⟨rfl, hb2⟩; rw [HB.out]; have ho2 := Lib.hid (own_later hor.out hb2); have c0 : w2.cell? ⟨g, s * 1001 + k, none⟩ = some (bit (keepTo R s q k s k)) := (own_at ho2.out).2.2.1 _ _ (rowsTo_get _ _ hs hlt3); have c1 : w2.frozen? ⟨g, s * 1001 + k, none⟩ = false := (own_at ho2.out).2.2.2 _)
        go_roundw
        case rel =>
          refine ⟨k + 1, hlt, by go_num, gb_set (gb_below hgr hb2) (Or.inl rfl) _, ?_⟩
          rw [← keepTo_no R s q k n hs hlt3 hqk]
          exact Lib.hid (own_set ho2.out (by rw [rowsTo_length]; omega) _)
        case measure => simp only [intOf]; omega
      · rw [hb] at hqk
        have HB := Lib.hid hb
        clear hb
        go_wp2_with (go_at_call 96; refine (agreeing1_any gm t lo hi k wr (Box.gb hm hgr (by simpa using hgm))).mono ?_; rintro e w2 ⟨rfl, hb2⟩; rw [HB.out]; have ho2 := Lib.hid (own_later hor.out hb2))
        go_roundw
        case rel =>
          refine ⟨k + 1, hlt, by go_num, gb_below hgr hb2, ?_⟩
          rw [← keepTo_yes R s q k n hqk]
          exact ho2
        case measure => simp only [intOf]; omega
    · obtain rfl : k = N := by omega
      have hN' := hN.out
      go_wp2
      go_end0
      refine ⟨rfl, hgr, ?_⟩
      have e := keepTo_end R s q n
      rw [← hN'] at e
      rw [← e]
      exact hor

set_option maxHeartbeats 1000000 in
theorem keepRow_any (base n s g cap : Nat) (R : Nat → Nat → Bool) (gm : Nat) (t : TypeId) (q : Nat → Bool) (w : World) (ho : Hid (w.ownsRow base 134 1001 (.slice (some ⟨g, 0, none⟩) n cap) n (rowsTo R n))) (hs : s < n)
    (hm : Box w gm t (rowCells q)) (hgm : gm ≠ g) :
    Calls Try.prog 106 #[.pointer (some ⟨g, s * 1001, none⟩), .func (.func 105) #[.pointer (some ⟨gm, 0, none⟩)] #[]] w
      fun e w' => e = .returned (.tuple #[]) ∧ w.grownBy w' (some g) ∧ Hid (w'.ownsRow base 134 1001 (.slice (some ⟨g, 0, none⟩) n cap) n (rowsTo (keepR R s q) n)) := by
  obtain ⟨N, hN⟩ : ∃ N : Nat, Hid (N = 1001) := ⟨1001, rfl⟩
  have hg0 := (own_at ho.out).2.1
  go_enter Try.func106, Try.ntmps106
  go_wp2
  go_loopw [5] (fun i wr => ∃ (k : Nat), k ≤ N ∧ i = .int .i64 k ∧ w.grownBy wr (some g) ∧ Hid (wr.ownsRow base 134 1001 (.slice (some ⟨g, 0, none⟩) n cap) n (rowsTo (keepTo R s q k) n)))
    (fun i _ => N - (intOf i).toNat)
  case atStart =>
    exact ⟨0, by omega, rfl, gb_refl _ _, by rw [keepTo_zero]; exact ho⟩
  case round =>
    obtain ⟨k, hk, rfl, hgr, hor⟩ := hrel
    by_cases hlt : k < N
    · have hlt2 : (k : Int) < 1001 := by have := hN.out; omega
      have hlt3 : k < 1001 := by have := hN.out; omega
      cases hqk : q k
      · have HB := Lib.hid hqk
        clear hqk
        go_wp2_with (go_at_call 105; refine (holds_any gm 0 q k wr (RowAt.of_box (Box.gb hm hgr (by simpa using hgm))) hlt3).mono ?_; rintro e w2 ⟨rfl, rfl⟩; rw [HB.out]; have ho2 := hor; have c0 : wr.cell? ⟨g, s * 1001 + k, none⟩ = some (bit (keepTo R s q k s k)) := (own_at ho2.out).2.2.1 _ _ (rowsTo_get _ _ hs hlt3); have c1 : wr.frozen? ⟨g, s * 1001 + k, none⟩ = false := (own_at ho2.out).2.2.2 _)
        go_roundw
        case rel =>
          refine ⟨k + 1, hlt, by go_num, gb_set hgr (Or.inl rfl) _, ?_⟩
          rw [← keepTo_no R s q k n hs hlt3 HB.out]
          exact Lib.hid (own_set ho2.out (by rw [rowsTo_length]; omega) _)
        case measure => simp only [intOf]; omega
      · have HB := Lib.hid hqk
        clear hqk
        go_wp2_with (go_at_call 105; refine (holds_any gm 0 q k wr (RowAt.of_box (Box.gb hm hgr (by simpa using hgm))) hlt3).mono ?_; rintro e w2 ⟨rfl, rfl⟩; rw [HB.out]; have ho2 := hor)
        go_roundw
        case rel =>
          refine ⟨k + 1, hlt, by go_num, hgr, ?_⟩
          rw [← keepTo_yes R s q k n HB.out]
          exact ho2
        case measure => simp only [intOf]; omega
    · obtain rfl : k = N := by omega
      have hN' := hN.out
      go_wp2
      go_end0
      refine ⟨rfl, hgr, ?_⟩
      have e := keepTo_end R s q n
      rw [← hN'] at e
      rw [← e]
      exact hor
end Go.Proofs.Ytigpefjeelgfdaa

/-
  Walks of layer 1: what only those histories have whose last hardness is wanted.
-/
namespace Go.Proofs.Ytigpefjeelgfdaa
open Go.RowKit

theorem wpList_load_row {P : Program} {ops : Array Oper} {Q : Exit → Act → World → Prop} {rest : List Oper} {a : Act} {w : World} {d : Tmp} {ty t : TypeId} {x : Operand} {pos : String} {af : Array Edge}
    (p : Value) (v : Value) (hx : a.eval x = p) (hl : (Instr.loadAt ty p).run P w = .ok v w)
    (h : wpList P ops Q rest (a.put (some d) v) w) : wpList P ops Q (⟨some d, .load ty x, t, pos, af, none⟩ :: rest) a w := by
  refine wpList_plain rfl fun K hK => ?_
  unfold Oper.wp
  simp only [execOp, hx, Sem.run_bind, hl, Result.andThen_ok, Sem.run_pure]
  exact hK _ _ h
/-- Some hardness can be had. -/
def anyRow (p : Nat → Bool) : Bool := (List.range 1001).any p
theorem anyRow_iff {p : Nat → Bool} : anyRow p = true ↔ ∃ j, j < 1001 ∧ p j = true := by simp [anyRow]
theorem rowCells_bytes (p : Nat → Bool) : rowCells p = (((List.range 1001).map fun j => if p j then (1 : UInt8) else 0).map Extern.Stop.cell).toArray := by
  unfold rowCells
  rw [List.map_map]
  generalize 1001 = n
  apply congrArg
  refine List.map_congr_left fun j _ => ?_
  simp only [Function.comp_def, bit, Extern.Stop.cell]
  cases p j <;> rfl
theorem bytes_eq (p : Nat → Bool) : (((List.range 1001).map fun j => if p j then (1 : UInt8) else 0) == ((List.range 1001).map fun _ => (0 : UInt8))) = !anyRow p := by
  generalize hn : 1001 = n
  unfold anyRow
  rw [hn]
  clear hn
  rw [Bool.eq_iff_iff, beq_iff_eq, List.map_inj_left]
  simp only [List.mem_range, Bool.not_eq_true', List.any_eq_false, Bool.not_eq_true]
  refine forall_congr' fun j => forall_congr' fun _ => ?_
  cases p j <;> simp
theorem sizeBit (w : World) : (sizeOf 5).run Try.prog w = .ok 1 w := by
  obtain ⟨i, hi, hz⟩ := Option.map_eq_some_iff.1 (show (Try.prog.info? 5).map (fun i => i.size) = some 1 by kernel_rfl)
  simp [sizeOf, typeInfo, hi, hz]
theorem run_equalIn_row (p : Nat → Bool) (w : World) : (Op.equalIn 10000 134 (.agg (rowCells p)) (.agg Try.zeroCells134)).run Try.prog w = .ok (!anyRow p) w := by
  rw [zeroRow, rowCells_bytes p, rowCells_bytes fun _ => false]
  have := run_equalIn_bytes (P := Try.prog) w 9998 134 5 1001 Try.underlying134 (by kernel_rfl) sizeBit ((List.range 1001).map fun j => if p j then (1 : UInt8) else 0) ((List.range 1001).map fun _ => (0 : UInt8)) (by simp) (by simp)
  rw [bytes_eq] at this
  exact this
theorem guardRow : Try.prog.eqGuardType Try.prog.depth 134 = false := by kernel_rfl

theorem wrapD {n : Nat} (h : n ≤ 6) : wrap64 ((n : Int) - 1) = (n : Int) - 1 := by unfold wrap64; omega
theorem measD {s : Nat} (h : s ≤ 6) : (intOf (Value.int .i64 (wrap64 ((s : Int) - 1))) + 1).toNat < (intOf (Value.int .i64 (s : Int)) + 1).toNat := by rw [wrapD h]; simp only [intOf]; omega
theorem own_gbne {w w' : World} {base n size g cap : Nat} {e : TypeId} {xs : List Value} (h : w.ownsRow base e size (.slice (some ⟨g, 0, none⟩) n cap) n xs) {row : Option Nat} (k : w.grownBy w' row) (hr : some g ≠ row) : w'.ownsRow base e size (.slice (some ⟨g, 0, none⟩) n cap) n xs := by
  refine ⟨h.1, h.2.imp id ?_⟩
  rintro ⟨g', cap', cur, hv, h3, h4, r⟩
  obtain ⟨rfl, rfl⟩ : g = g' ∧ cap = cap' := by simp at hv; exact hv
  exact ⟨g, cap, cur, rfl, h3, (k.block g (Array.getElem?_eq_some_iff.1 h4).1 hr).trans h4, r⟩
theorem own_drewN {w : World} {base n size : Nat} {e : TypeId} {v : Value} {xs : List Value} (h : Hid (w.ownsRow base e size v n xs)) (k : Nat) : Hid ((w.drewN k).ownsRow base e size v n xs) := h
/-- What leads into a row, by the stretches from number 0 to k. -/
def leadPart (ks : List Kink) (p : Nat → Bool) : Nat → Nat → Bool
  | 0 => fun _ => false
  | k + 1 => if meetsB p (strAt ks k).t1.toNat (strAt ks k).t2.toNat then fun j => leadPart ks p k j || decide ((strAt ks k).f1.toNat ≤ j ∧ j ≤ (strAt ks k).f2.toNat) else leadPart ks p k
/-- The rows, t steps back from the last one. -/
def backR (x : Works) (ways : List Int) (R : Nat → Nat → Bool) (n : Nat) : Nat → Nat → Nat → Bool
  | 0 => R
  | t + 1 => keepR (backR x ways R n t) (n - t - 1) (leadPart (wayOf x ways (n - t - 1)) (backR x ways R n t (n - t)) (wayOf x ways (n - t - 1)).length)
theorem backR_step (x : Works) (ways : List Int) (R : Nat → Nat → Bool) {n s : Nat} (h : s < n) :
    backR x ways R n (n - s) = keepR (backR x ways R n (n - (s + 1))) s (leadPart (wayOf x ways s) (backR x ways R n (n - (s + 1)) (s + 1)) (wayOf x ways s).length) := by
  obtain ⟨t, rfl⟩ : ∃ t, n = s + t + 1 := ⟨n - s - 1, by omega⟩
  have e1 : s + t + 1 - s = t + 1 := by omega
  have e2 : s + t + 1 - (s + 1) = t := by omega
  have e3 : s + t + 1 - t - 1 = s := by omega
  have e4 : s + t + 1 - t = s + 1 := by omega
  rw [e1, e2, backR, e3, e4]
/-- The rows that are left, and whether there is a history. -/
def hadRows (x : Works) (ways : List Int) (R : Nat → Nat → Bool) (q : Nat → Bool) : Nat → Nat → Bool := backR x ways (keepR R x.steps.length q) x.steps.length x.steps.length
def hadAny (x : Works) (R : Nat → Nat → Bool) (q : Nat → Bool) : Bool := anyRow (keepR R x.steps.length q x.steps.length)
def RetAgree (c g cap : Nat) (x : Works) (ways : List Int) (R : Nat → Nat → Bool) (q : Nat → Bool) (w : World) (e : Ending) (w' : World) : Prop :=
  e = .returned (.bool (hadAny x R q)) ∧ w.grownBy w' (some g) ∧ (hadAny x R q = true → Hid (w'.ownsRow (c + 1) 134 1001 (.slice (some ⟨g, 0, none⟩) (x.steps.length + 1) cap) (x.steps.length + 1) (rowsTo (hadRows x ways R q) (x.steps.length + 1))))

attribute [local go_sem] run_equalIn_row
attribute [local go_sem] guardRow
set_option maxRecDepth 100000 in
set_option maxHeartbeats 1000000 in
theorem agree_any (c g cap : Nat) (Ab As Ar : Option Addr) (cb cs cr : Nat) (x : Works) (m : Nat) (ways : List Int) (B : Nat) (R : Nat → Nat → Bool) (gm : Nat) (lo hi : Int) (w : World) (h : In w B Ab As Ar cb cs cr x ways) (ok : RecOk x m ways)
    (hc : Course w c Ab As Ar cb cs cr x m ways (.slice (some ⟨g, 0, none⟩) (x.steps.length + 1) cap)) (hBc : B ≤ c) (ho : Hid (w.ownsRow (c + 1) 134 1001 (.slice (some ⟨g, 0, none⟩) (x.steps.length + 1) cap) (x.steps.length + 1) (rowsTo R (x.steps.length + 1))))
    (hm : Box w gm 33 #[.int .i64 lo, .int .i64 hi]) (hgm : gm ≠ g) :
    Calls Try.prog 95 #[.pointer (some ⟨c, 0, none⟩), .func (.func 96) #[] #[.pointer (some ⟨gm, 0, none⟩)]] w (RetAgree c g cap x ways R (fun j => inB j lo hi) w) := by
  obtain ⟨q, hq⟩ : ∃ q : Nat → Bool, Hid ((fun j : Nat => inB j lo hi) = q) := ⟨_, rfl⟩
  rw [hq.out]
  obtain ⟨hcg, hgw, _, _⟩ := own_at ho.out
  obtain ⟨u0, u1, u2, u3, u4, u5⟩ := hc.cells
  have hz := Box.lt hc
  have hix : (x.steps.length : Int) < ((x.steps.length + 1 : Nat) : Int) := by omega
  generalize hR1 : keepR R x.steps.length q = R1
  have HR1 := Lib.hid hR1
  have hL : ∀ W : World, W.ownsRow (c + 1) 134 1001 (.slice (some ⟨g, 0, none⟩) (x.steps.length + 1) cap) (x.steps.length + 1) (rowsTo R1 (x.steps.length + 1)) → (Instr.loadAt 134 (.pointer (some ⟨g, x.steps.length * 1001, none⟩))).run Try.prog W = .ok (.agg (rowCells (R1 x.steps.length))) W := by
    intro W hW
    refine run_load_row W fun j v hv => ?_
    have hr := row_in (own_at hW).2.2.1 (i := x.steps.length) (by omega)
    rw [Array.getElem?_toList, rowCells_get] at hv
    split at hv
    · rename_i hj
      rw [hr j hj]; exact hv
    · cases hv
  have HL := Lib.hid hL
  have hHA : hadAny x R q = anyRow (R1 x.steps.length) := by rw [← hR1]; rfl
  have hHR : hadRows x ways R q = backR x ways R1 x.steps.length x.steps.length := by rw [← hR1]; rfl
  unfold RetAgree
  rw [hHA, hHR]
  clear hR1 hL hHA hHR
  cases hA : anyRow (R1 x.steps.length)
  · go_enter Try.func95, Try.ntmps95
    go_wp2_with fail
    go_quiet (fail)
    clear u0 u1 u2 u3 u4 u5
    go_wp2_with (first | (go_at_call 106; refine (keepIn_any (c + 1) (x.steps.length + 1) x.steps.length g cap R gm 33 lo hi _ (own_drewN ho _) (by omega) (Box.drewN hm _) hgm).mono ?_; rintro e w1 ⟨rfl, hg1, ho1⟩; rw [hq.out, HR1.out] at ho1; have hld := HL.out w1 ho1.out; have hc1 : Course w1 c Ab As Ar cb cs cr x m ways _ := Box.gb (Box.drewN hc _) hg1 (by simp; omega); obtain ⟨u0, u1, u2, u3, u4, u5⟩ := hc1.cells; have hz1 : c < w1.heap.size := Box.lt hc1) | (refine wpList_load_row (d := 26) (ty := 134) (x := .tmp 25) (.pointer (some ⟨g, x.steps.length * 1001, none⟩)) (.agg (rowCells (R1 x.steps.length))) rfl hld ?_))
    go_ret
    exact ⟨rfl, gb_trans (gb_drewN (gb_refl w _) _) hg1 (Or.inl rfl), fun h => by cases h⟩
  · go_enter Try.func95, Try.ntmps95
    go_wp2_with fail
    go_quiet (fail)
    clear u0 u1 u2 u3 u4 u5
    go_wp2_with (first | (go_at_call 106; refine (keepIn_any (c + 1) (x.steps.length + 1) x.steps.length g cap R gm 33 lo hi _ (own_drewN ho _) (by omega) (Box.drewN hm _) hgm).mono ?_; rintro e w1 ⟨rfl, hg1, ho1⟩; rw [hq.out, HR1.out] at ho1; have hld := HL.out w1 ho1.out; have hc1 : Course w1 c Ab As Ar cb cs cr x m ways _ := Box.gb (Box.drewN hc _) hg1 (by simp; omega); obtain ⟨u0, u1, u2, u3, u4, u5⟩ := hc1.cells; have hz1 : c < w1.heap.size := Box.lt hc1) | (refine wpList_load_row (d := 26) (ty := 134) (x := .tmp 25) (.pointer (some ⟨g, x.steps.length * 1001, none⟩)) (.agg (rowCells (R1 x.steps.length))) rfl hld ?_))
    have hg1' : w.grownBy (w1.alloc (.cells Try.zeroCells134 134)) (some g) := gb_alloc (gb_trans (gb_drewN (gb_refl w _) _) hg1 (Or.inl rfl)) _
    have ho1' := Lib.hid (own_gbne ho1.out (gb_alloc (gb_refl w1 none) (.cells Try.zeroCells134 134)) (by simp))
    have hn1 : Box (w1.alloc (.cells Try.zeroCells134 134)) w1.heap.size 134 (rowCells fun _ => false) := by rw [← zeroRow]; exact Box.new _ _ _
    have hgL : g < w1.heap.size := (own_at ho1.out).2.1
    have hn6 := steps_few ok.works
    have hzL : w.heap.size ≤ w1.heap.size := (gb_trans (gb_drewN (gb_refl w _) _) hg1 (Or.inl rfl)).size
    generalize hW : w1.alloc (.cells Try.zeroCells134 134) = W1 at hg1' ho1' hn1 ⊢
    generalize w1.heap.size = L at hgL hz1 hn1 hzL ⊢
    clear hW ho1 hg1 hc1 u0 u1 u2 u3 u4 u5 hld HL
    go_loopw [7] (fun i wr => ∃ (k : Nat) (j : Int), k ≤ x.steps.length ∧ j = (k : Int) - 1 ∧ i = .int .i64 j ∧ w.grownBy wr (some g) ∧ Hid (wr.ownsRow (c + 1) 134 1001 (.slice (some ⟨g, 0, none⟩) (x.steps.length + 1) cap) (x.steps.length + 1) (rowsTo (backR x ways R1 x.steps.length (x.steps.length - k)) (x.steps.length + 1))) ∧ (∃ p, Box wr L 134 (rowCells p)))
      (fun i _ => (intOf i + 1).toNat)
    case atStart =>
      exact ⟨x.steps.length, _, Nat.le_refl _, rfl, congrArg _ (wrapD hn6), hg1', by rw [Nat.sub_self]; exact ho1', _, hn1⟩
    case round =>
      obtain ⟨k, j, hk, hj, rfl, hgr, hor, pn, hn⟩ := hrel
      have z1 := hgr.size
      have z2 := hn.lt
      by_cases hlt : 0 < k
      · obtain ⟨s, rfl⟩ : ∃ s, k = s + 1 := ⟨k - 1, by omega⟩
        obtain rfl : j = (s : Int) := by omega
        have hcr : Course wr c Ab As Ar cb cs cr x m ways _ := Box.gb hc hgr (by simp; omega)
        have hs : s < x.steps.length := by omega
        have hwl := way_ok (wayOf_err ok hs)
        have hsn : (0 : Int) ≤ (s : Int) := by omega
        have hbr : Below c w wr := gb_to_below hgr (by omega) (by simp; omega)
        have hst := backR_step x ways R1 hs
        generalize hRB : backR x ways R1 x.steps.length (x.steps.length - (s + 1)) = RB at hor hst
        have HST := Lib.hid hst
        have z3 := (own_at hor.out).2.1
        clear hRB hst
        clear hj hlt
        go_wp2_with (first | (refine wpList_clear_row (o := ⟨none, _, _, _, _, _⟩) rfl (.tmp 40) 66 rfl 5 (.int .u8 0) Try.underlying66 zeroBit L 1001 1001 rfl (rowCells pn) 134 hn (zeroRowSize pn) zeroRowOne (by decide) ?_; intro w5 hn5 hg5; rw [zeroRowCells] at hn5; have hc5 : Course w5 c Ab As Ar cb cs cr x m ways _ := Box.gb hcr hg5 (by simp; omega)) | (go_at_call 90; refine (way_any c Ab As Ar cb cs cr x m ways _ B s w5 (h.on (hbr.trans (gb_to_below hg5 (by omega) (by simp; omega))) hBc) ok hc5 hs).mono ?_; rintro e w6 ⟨A6, k6, rfl, hk6, hl6, hm6, he6, hb6⟩) | (go_at_call 89; refine (stretches_any A6 k6 _ B w6 (kinks_on hk6 hb6 (by have := hg5.size; omega)) hl6 hm6 (by have := hg5.size; have := hb6.size; omega) (kinksVal_of hwl.2.2.1) (Lib.hid hwl.2.1)).mono ?_; rintro e w7 ⟨v7, rfl, ho7, hb7⟩; obtain ⟨g7, c7, rfl, hg7, hg7', hl7, hm7, hs7⟩ := own_cells ho7 hwl.1))
        have hb67 : Below w5.heap.size w5 w7 := hb6.trans (hb7.mono hb6.size)
        have hn7 := Box.below hn5 hb67 hn5.lt
        have hc7 : Course w7 c Ab As Ar cb cs cr x m ways _ := Box.below hc5 hb67 (Box.lt hc5)
        have hg57 : wr.grownBy w7 (some L) := gb_below hg5 hb67
        have ho7' := Lib.hid (own_gbne hor.out hg57 (by simp; omega))
        have hz7 : w5.heap.size ≤ w6.heap.size := hb6.size
        have hz5 := hg5.size
        have z57 := hg57.size
        generalize hP : RB (s + 1) = P at HST
        have HP := Lib.hid hP
        clear hP
        have hrow : RowAt w7 g ((s + 1) * 1001) P := by
          have := row_in (own_at ho7'.out).2.2.1 (i := s + 1) (by omega)
          rw [HP.out] at this
          exact this
        generalize hK : wayOf x ways s = ks at hwl hl6 hm6 hk6 he6 ho7 hl7 hs7 HST ⊢
        clear hK
        go_loopw [46] (fun i wi => ∃ (t : Nat), t ≤ ks.length ∧ i = .int .i64 t ∧ w7.grownBy wi (some L) ∧ Box wi L 134 (rowCells (leadPart ks P t)))
          (fun i _ => ks.length - (intOf i).toNat)
        case atStart =>
          exact ⟨0, by omega, rfl, gb_refl _ _, hn7⟩
        case round =>
          obtain ⟨t, ht, rfl, hgi, hni⟩ := hrel
          by_cases hlt2 : t < ks.length
          · obtain ⟨sa, sb, sc, sd, hst, q1, q2, q3, q4⟩ := str_val hwl.2.2.1 hlt2
            obtain ⟨s0, s1, s2, s3⟩ := str_in hs7 hlt2
            rw [hst] at s0 s1 s2 s3
            have HSTR := Lib.hid hst
            clear hst
            obtain ⟨r1, r2⟩ := gb_reads hgi
            have s0' := (r1 g7 (t * 4) hg7' (by omega)).trans s0
            have s1' := (r1 g7 (t * 4 + 1) hg7' (by omega)).trans s1
            have s2' := (r1 g7 (t * 4 + 2) hg7' (by omega)).trans s2
            have s3' := (r1 g7 (t * 4 + 3) hg7' (by omega)).trans s3
            have hsi := hgi.size
            have l1 : (t : Int) < (ks.length : Int) := by omega
            have l2 : g7 < wr.heap.size := by omega
            clear s0 s1 s2 s3 r1 r2
            go_wp2_with fail
            have hcx : Course (wr.alloc (.cells #[.int .i64 sa, .int .i64 sb, .int .i64 sc, .int .i64 sd] 141)) c Ab As Ar cb cs cr x m ways _ := Box.alloc (Box.gb hc7 hgi (by simp; omega)) _
            have hnx : Box (wr.alloc (.cells #[.int .i64 sa, .int .i64 sb, .int .i64 sc, .int .i64 sd] 141)) L 134 (rowCells (leadPart ks P t)) := Box.alloc hni _
            have hsx : Box (wr.alloc (.cells #[.int .i64 sa, .int .i64 sb, .int .i64 sc, .int .i64 sd] 141)) wr.heap.size 141 #[.int .i64 sa, .int .i64 sb, .int .i64 sc, .int .i64 sd] := Box.new _ _ _
            have hgx : w7.grownBy (wr.alloc (.cells #[.int .i64 sa, .int .i64 sb, .int .i64 sc, .int .i64 sd] 141)) (some L) := gb_alloc hgi _
            have z5 := (own_at ho7'.out).2.1
            have hrx : RowAt (wr.alloc (.cells #[.int .i64 sa, .int .i64 sb, .int .i64 sc, .int .i64 sd] 141)) g ((s + 1) * 1001) P := by
              intro j hj
              rw [← hrow j hj]
              exact (gb_reads hgx).1 g _ z5 (by omega)
            have hgs := hsx.lt
            have z6 := hgx.size
            generalize wr.alloc (.cells #[.int .i64 sa, .int .i64 sb, .int .i64 sc, .int .i64 sd] 141) = wx at hcx hnx hsx hgx hrx hgs z6 ⊢
            obtain ⟨u0, u1, u2, u3, u4, u5⟩ := hcx.cells
            have t2 : wx.cell? ⟨wr.heap.size, 0 + 2, none⟩ = some (.int .i64 sc) := hsx.cell 2
            have t3 : wx.cell? ⟨wr.heap.size, 0 + 2 + 1, none⟩ = some (.int .i64 sd) := hsx.cell 3
            have z7 := Box.lt hcx
            have z8 : g < wx.heap.size := by omega
            have l3 : (s : Int) + 1 < ((x.steps.length + 1 : Nat) : Int) := by omega
            refine wp_region_later (by kernel_rfl) (by kernel_rfl) ?_; have _hl := later_reads (wx); (repeat (go_big_quiet_step ((go_at_call 91; exact LaterW.callsB (fun W hbW => meets_any g ((s + 1) * 1001) P sc sd W (hrx.on hbW z8) (by have := hbW.size; omega) q4))))); refine wpQuiet_nil ?_; intro w8 hw'; have hb_w8 := later_below hw'; clear hw' _hl
            have hn8 := Box.below hnx hb_w8 hnx.lt
            have hs8 := Box.below hsx hb_w8 hgs
            have hg8 : w7.grownBy w8 (some L) := gb_below hgx hb_w8
            have hz8 := hb_w8.size
            clear u0 u1 u2 u3 u4 u5 t2 t3 hcx hnx hsx hgx hrx hb_w8
            have t0 : w8.cell? ⟨wr.heap.size, 0, none⟩ = some (.int .i64 sa) := hs8.cell 0
            have t1 : w8.cell? ⟨wr.heap.size, 0 + 1, none⟩ = some (.int .i64 sb) := hs8.cell 1
            have hrp : leadPart ks P (t + 1) = if meetsB P sc sd then fun j => leadPart ks P t j || decide (sa ≤ j ∧ j ≤ sb) else leadPart ks P t := by
              simp only [leadPart, HSTR.out, Int.toNat_natCast]
            have H12 : Hid (ks.length ≤ 1000) := Lib.hid (by omega)
            cases hmt : meetsB P sc sd
            · rw [hmt, if_neg (by simp)] at hrp
              have HRP := Lib.hid hrp
              clear hrp
              go_wp2_with fail
              go_roundw
              case rel => exact ⟨t + 1, hlt2, by go_num, hg8, by rw [HRP.out]; exact hn8⟩
              case measure => simp only [intOf]; omega
            · rw [hmt, if_pos rfl] at hrp
              have HRP := Lib.hid hrp
              clear hrp
              go_wp2_with (go_at_call 87; refine (fill_any L 134 _ sa sb _ hn8 q2).mono ?_; rintro e w9 ⟨rfl, hg9, hn9⟩)
              go_roundw
              case rel => exact ⟨t + 1, hlt2, by go_num, gb_trans hg8 hg9 (Or.inl rfl), by rw [HRP.out]; exact hn9⟩
              case measure => simp only [intOf]; omega
          · obtain rfl : t = ks.length := by omega
            have hcw : Course wr c Ab As Ar cb cs cr x m ways _ := Box.gb hc7 hgi (by simp; omega)
            have how := Lib.hid (own_gbne ho7'.out hgi (by simp; omega))
            have hgw7 : w.grownBy w7 (some g) := gb_trans hgr hg57 (Or.inr (fun g' e => by injection e with e; omega))
            generalize leadPart ks P ks.length = PN at hni HST
            obtain ⟨u0, u1, u2, u3, u4, u5⟩ := hcw.cells
            have l4 : (s : Int) < ((x.steps.length + 1 : Nat) : Int) := by omega
            have hLg : L ≠ g := by omega
            go_wp2_with (go_at_call 106; refine (keepRow_any (c + 1) (x.steps.length + 1) s g cap RB L 134 PN wr how (by omega) hni hLg).mono ?_; rintro e wk ⟨rfl, hgk, hok⟩)
            refine ⟨⟨s, _, Nat.le_of_lt hs, rfl, rfl, gb_trans (gb_trans hgw7 hgi (Or.inr (fun g' e => by injection e with e; omega))) hgk (Or.inl rfl), by rw [HST.out]; exact hok, _, Box.gb hni hgk (by simpa using hLg)⟩, ?_⟩
            simp only [intOf]; omega
      · obtain rfl : k = 0 := by omega
        obtain rfl : j = -1 := by omega
        clear hj hlt
        go_wp2_with fail
        go_ret
        exact ⟨rfl, hgr, fun _ => hor⟩
end Go.Proofs.Ytigpefjeelgfdaa

/-
  Walks of layer 1: the course of a recipe with what those histories have that agree with what was measured; Had.
-/
namespace Go.Proofs.Ytigpefjeelgfdaa
open Go.RowKit

/-- The rows of a recipe. -/
def recRows (x : Works) (bar : Int) (ways : List Int) : Nat → Nat → Bool := rowOf x ways (barP x bar.toNat)
def meas (lo hi : Int) (j : Nat) : Bool := inB j lo hi
/-- The error of agreeing. -/
def agrErr (x : Works) (bar : Int) (ways : List Int) (lo hi : Int) : Int :=
  if recErr x bar ways ≠ 0 then recErr x bar ways else if isHardB lo hi = false then 2 else if hadAny x (recRows x bar ways) (meas lo hi) = false then 17 else 0
def agrRows (x : Works) (bar : Int) (ways : List Int) (lo hi : Int) : Nat → Nat → Bool := hadRows x ways (recRows x bar ways) (meas lo hi)
def RetAgreeing (Ab As Ar : Option Addr) (cb cs cr : Nat) (x : Works) (bar : Int) (ways : List Int) (lo hi : Int) (w : World) (e : Ending) (w' : World) : Prop :=
  ∃ p, e = .returned (.tuple #[.pointer p, .int .i64 (agrErr x bar ways lo hi)]) ∧ Below w.heap.size w w' ∧
    (agrErr x bar ways lo hi = 0 → ∃ c, p = some ⟨c, 0, none⟩ ∧ RetRows Ab As Ar cb cs cr x bar.toNat ways (agrRows x bar ways lo hi) w.heap.size c w w')

set_option maxRecDepth 100000 in
set_option maxHeartbeats 1000000 in
theorem agreeing_any (Ab As Ar : Option Addr) (cb cs cr : Nat) (x : Works) (bar : Int) (ways : List Int) (lo hi : Int) (B : Nat) (w : World) (h : In w B Ab As Ar cb cs cr x ways) :
    Calls Try.prog 66 #[.agg #[.slice Ab x.bars.length cb, .slice As x.steps.length cs], .agg #[.int .i64 bar, .slice Ar ways.length cr], .agg #[.int .i64 lo, .int .i64 hi]] w
      (RetAgreeing Ab As Ar cb cs cr x bar ways lo hi w) := by
  have hB := h.le
  by_cases g1 : recErr x bar ways = 0
  · have ok := recOk_iff.1 g1
    obtain ⟨m, hbar⟩ := Int.eq_ofNat_of_zero_le ok.bar0
    subst hbar
    cases g2 : isHardB lo hi
    · have E : Hid (agrErr x m ways lo hi = 2) := by simp only [Hid, agrErr]; rw [if_neg (by simpa using g1), if_pos g2]
      have G := Lib.hid g1
      have G2 := Lib.hid g2
      clear g1 g2
      go_enter Try.func66, Try.ntmps66
      go_wp2_with (first
        | (go_at_call 60; refine (checkRecipe_any _ _ _ _ _ _ x m ways B _ (h.on (n := w.heap.size) bel hB)).mono ?_; rintro e w1 ⟨rfl, hb1⟩; rw [G.out]; obtain ⟨_hr1, _hr2⟩ := below_reads hb1; have _hz := Below.size hb1; (try simp only [World.size_alloc, World.size_setCell, World.size_drew, World.heap_drewN] at _hz); obtain ⟨_hr3, _hr4⟩ := below_reads (show Below w.heap.size w w1 from bel); have _q0 : w.heap.size < w1.heap.size := (by omega); have _q1 : w.heap.size + 1 < w1.heap.size := (by omega); have _q2 : w.heap.size + 1 + 1 < w1.heap.size := (by omega))
        | (go_at_call 59; refine (isHardRange_any lo hi _).mono ?_; rintro e w2 ⟨rfl, hb2⟩; rw [G2.out]; obtain ⟨_hr1, _hr2⟩ := below_reads hb2; have _hz := Below.size hb2; (try simp only [World.size_alloc, World.size_setCell, World.size_drew, World.heap_drewN] at _hz); obtain ⟨_hr3, _hr4⟩ := below_reads (show Below w.heap.size w w2 from bel); have _q0 : w.heap.size < w2.heap.size := (by omega); have _q1 : w.heap.size + 1 < w2.heap.size := (by omega); have _q2 : w.heap.size + 1 + 1 < w2.heap.size := (by omega)))
      refine bodyPost_ret (v := .tuple #[.pointer none, .int .i64 2]) (by simp [results, Try.results66, go_sem, *]) rfl ?_
      exact ⟨none, by rw [E.out], bel, fun h => absurd (E.out.symm.trans h) (by decide)⟩
    · have G := Lib.hid g1
      have G2 := Lib.hid g2
      cases g3 : hadAny x (recRows x m ways) (meas lo hi)
      · have E : Hid (agrErr x m ways lo hi = 17) := by simp only [Hid, agrErr]; rw [if_neg (by simpa using g1), if_neg (by simp [g2]), if_pos g3]
        simp only [recRows, Int.toNat_natCast] at g3
        have G3 : Hid (hadAny x (rowOf x ways (barP x m)) (fun j => inB j lo hi) = false) := g3
        clear g1 g2 g3
        go_enter Try.func66, Try.ntmps66
        go_wp2_with (first
          | (go_at_call 60; refine (checkRecipe_any _ _ _ _ _ _ x m ways B _ (h.on (n := w.heap.size) bel hB)).mono ?_; rintro e w1 ⟨rfl, hb1⟩; rw [G.out]; obtain ⟨_hr1, _hr2⟩ := below_reads hb1; have _hz := Below.size hb1; (try simp only [World.size_alloc, World.size_setCell, World.size_drew, World.heap_drewN] at _hz); obtain ⟨_hr3, _hr4⟩ := below_reads (show Below w.heap.size w w1 from bel); have _q0 : w.heap.size < w1.heap.size := (by omega); have _q1 : w.heap.size + 1 < w1.heap.size := (by omega); have _q2 : w.heap.size + 1 + 1 < w1.heap.size := (by omega))
          | (go_at_call 59; refine (isHardRange_any lo hi _).mono ?_; rintro e w2 ⟨rfl, hb2⟩; rw [G2.out]; obtain ⟨_hr1, _hr2⟩ := below_reads hb2; have _hz := Below.size hb2; (try simp only [World.size_alloc, World.size_setCell, World.size_drew, World.heap_drewN] at _hz); obtain ⟨_hr3, _hr4⟩ := below_reads (show Below w.heap.size w w2 from bel); have _q0 : w.heap.size < w2.heap.size := (by omega); have _q1 : w.heap.size + 1 < w2.heap.size := (by omega); have _q2 : w.heap.size + 1 + 1 < w2.heap.size := (by omega))
          | (go_at_call 61; refine (follow_any _ _ _ _ _ _ x m ways B _ (h.on (n := w.heap.size) bel hB) ok).mono ?_; rintro e w3 ⟨c, rfl, vr, hc, hBc, ho, hb3⟩; obtain ⟨g, cap, rfl, hg, hg', hcr1, hcr2, hrd⟩ := own_cells ho.out (by omega); obtain ⟨_hr1, _hr2⟩ := below_reads hb3; have _hz := Below.size hb3; (try simp only [World.size_alloc, World.size_setCell, World.size_drew, World.heap_drewN] at _hz); obtain ⟨_hr3, _hr4⟩ := below_reads (show Below w.heap.size w w3 from bel); have _q0 : w.heap.size < w3.heap.size := (by omega); have _q1 : w.heap.size + 1 < w3.heap.size := (by omega); have _q2 : w.heap.size + 1 + 1 < w3.heap.size := (by omega); have hm3 : Box w3 (w.heap.size + 1 + 1) 33 #[.int .i64 lo, .int .i64 hi] := (by exact bxt))
          | (go_at_call 95; refine (agree_any c g cap _ _ _ _ _ _ x m ways B _ (w.heap.size + 1 + 1) lo hi _ (h.on (n := w.heap.size) bel hB) ok hc (by omega) ho hm3 (by omega)).mono ?_; rintro e w4 ⟨rfl, hg4, _⟩; rw [G3.out]))
        refine bodyPost_ret (v := .tuple #[.pointer none, .int .i64 17]) (by simp [results, Try.results66, go_sem, *]) rfl ?_
        have hbx : Below w.heap.size w w3 := bel
        exact ⟨none, by rw [E.out], hbx.trans (gb_to_below hg4 hbx.size (by intro g' e; injection e with e; omega)), fun h => absurd (E.out.symm.trans h) (by decide)⟩
      · have E : Hid (agrErr x m ways lo hi = 0) := by simp only [Hid, agrErr]; rw [if_neg (by simpa using g1), if_neg (by simp [g2]), if_neg (by simp [g3])]
        simp only [recRows, Int.toNat_natCast] at g3
        have G3 : Hid (hadAny x (rowOf x ways (barP x m)) (fun j => inB j lo hi) = true) := g3
        clear g1 g2 g3
        go_enter Try.func66, Try.ntmps66
        go_wp2_with (first
          | (go_at_call 60; refine (checkRecipe_any _ _ _ _ _ _ x m ways B _ (h.on (n := w.heap.size) bel hB)).mono ?_; rintro e w1 ⟨rfl, hb1⟩; rw [G.out]; obtain ⟨_hr1, _hr2⟩ := below_reads hb1; have _hz := Below.size hb1; (try simp only [World.size_alloc, World.size_setCell, World.size_drew, World.heap_drewN] at _hz); obtain ⟨_hr3, _hr4⟩ := below_reads (show Below w.heap.size w w1 from bel); have _q0 : w.heap.size < w1.heap.size := (by omega); have _q1 : w.heap.size + 1 < w1.heap.size := (by omega); have _q2 : w.heap.size + 1 + 1 < w1.heap.size := (by omega))
          | (go_at_call 59; refine (isHardRange_any lo hi _).mono ?_; rintro e w2 ⟨rfl, hb2⟩; rw [G2.out]; obtain ⟨_hr1, _hr2⟩ := below_reads hb2; have _hz := Below.size hb2; (try simp only [World.size_alloc, World.size_setCell, World.size_drew, World.heap_drewN] at _hz); obtain ⟨_hr3, _hr4⟩ := below_reads (show Below w.heap.size w w2 from bel); have _q0 : w.heap.size < w2.heap.size := (by omega); have _q1 : w.heap.size + 1 < w2.heap.size := (by omega); have _q2 : w.heap.size + 1 + 1 < w2.heap.size := (by omega))
          | (go_at_call 61; refine (follow_any _ _ _ _ _ _ x m ways B _ (h.on (n := w.heap.size) bel hB) ok).mono ?_; rintro e w3 ⟨c, rfl, vr, hc, hBc, ho, hb3⟩; obtain ⟨g, cap, rfl, hg, hg', hcr1, hcr2, hrd⟩ := own_cells ho.out (by omega); obtain ⟨_hr1, _hr2⟩ := below_reads hb3; have _hz := Below.size hb3; (try simp only [World.size_alloc, World.size_setCell, World.size_drew, World.heap_drewN] at _hz); obtain ⟨_hr3, _hr4⟩ := below_reads (show Below w.heap.size w w3 from bel); have _q0 : w.heap.size < w3.heap.size := (by omega); have _q1 : w.heap.size + 1 < w3.heap.size := (by omega); have _q2 : w.heap.size + 1 + 1 < w3.heap.size := (by omega); have hm3 : Box w3 (w.heap.size + 1 + 1) 33 #[.int .i64 lo, .int .i64 hi] := (by exact bxt))
          | (go_at_call 95; refine (agree_any c g cap _ _ _ _ _ _ x m ways B _ (w.heap.size + 1 + 1) lo hi _ (h.on (n := w.heap.size) bel hB) ok hc (by omega) ho hm3 (by omega)).mono ?_; rintro e w4 ⟨rfl, hg4, hf4⟩; rw [G3.out]; have hfo := hf4 G3.out; clear hf4))
        refine bodyPost_ret (v := .tuple #[.pointer (some ⟨c, 0, none⟩), .int .i64 0]) (by simp [results, Try.results66, go_sem, *]) rfl ?_
        have hbx : Below w.heap.size w w3 := bel
        have hbe := hbx.trans (gb_to_below hg4 hbx.size (by intro g' e; injection e with e; omega))
        refine ⟨_, by rw [E.out], hbe, fun _ => ⟨c, rfl, _, Box.gb hc hg4 (by simp; omega), by omega, ?_, hbe⟩⟩
        unfold agrRows recRows meas
        simp only [Int.toNat_natCast]
        exact hfo
  · have E : Hid (agrErr x bar ways lo hi = recErr x bar ways) := by simp only [Hid, agrErr]; rw [if_pos g1]
    have g1' : (recErr x bar ways != 0) = true := by simp [g1]
    have G := Lib.hid g1
    clear g1
    go_enter Try.func66, Try.ntmps66
    go_wp2_with (go_at_call 60; refine (checkRecipe_any _ _ _ _ _ _ x bar ways B _ (h.on (n := w.heap.size) bel hB)).mono ?_; rintro e w1 ⟨rfl, hb1⟩; obtain ⟨_hr1, _hr2⟩ := below_reads hb1; have _hz := Below.size hb1; (try simp only [World.size_alloc, World.size_setCell, World.size_drew, World.heap_drewN] at _hz); obtain ⟨_hr3, _hr4⟩ := below_reads (show Below w.heap.size w w1 from bel); have _q0 : w.heap.size < w1.heap.size := (by omega); have _q1 : w.heap.size + 1 < w1.heap.size := (by omega); have _q2 : w.heap.size + 1 + 1 < w1.heap.size := (by omega))
    refine bodyPost_ret (v := .tuple #[.pointer none, .int .i64 (recErr x bar ways)]) (by simp [results, Try.results66, go_sem, *]) rfl ?_
    exact ⟨none, by rw [E.out], bel, fun h => absurd (E.out.symm.trans h) G.out⟩

set_option maxHeartbeats 1000000 in
theorem heatHad_any (Ab As Ar : Option Addr) (cb cs cr : Nat) (x : Works) (bar : Int) (ways : List Int) (lo hi : Int) (B : Nat) (w : World) (h : In w B Ab As Ar cb cs cr x ways) :
    Calls Try.prog 28 #[.agg #[.slice Ab x.bars.length cb, .slice As x.steps.length cs], .agg #[.int .i64 bar, .slice Ar ways.length cr], .agg #[.int .i64 lo, .int .i64 hi]] w
      (RetList 33 2 (agrErr x bar ways lo hi) (x.steps.length + 1) (endsTo (agrRows x bar ways lo hi) (x.steps.length + 1)) w) := by
  have hB := h.le
  by_cases g1 : agrErr x bar ways lo hi = 0
  · have hs6 : Hid (x.steps.length + 1 ≤ 1000) := by
      have : recErr x bar ways = 0 := by
        unfold agrErr at g1
        by_cases hr : recErr x bar ways = 0
        · exact hr
        · rw [if_pos hr] at g1; exact g1
      have := steps_few (recOk_iff.1 this).works
      exact Lib.hid (by omega)
    have G := Lib.hid g1
    rw [g1]
    clear g1
    go_enter Try.func28, Try.ntmps28
    go_wp2_with (first
      | (go_at_call 66; refine (agreeing_any _ _ _ _ _ _ x bar ways lo hi B _ (h.on (n := w.heap.size) bel hB)).mono ?_; rintro e w1 ⟨p, rfl, hb1, hr1⟩; obtain ⟨c, rfl, vr, hc, hBc, ho, _⟩ := hr1 G.out; rw [G.out]; obtain ⟨_hr1, _hr2⟩ := below_reads hb1; have _hz := Below.size hb1; (try simp only [World.size_alloc, World.size_setCell, World.size_drew, World.heap_drewN] at _hz); obtain ⟨_hr3, _hr4⟩ := below_reads (show Below w.heap.size w w1 from bel); have _q0 : w.heap.size < w1.heap.size := (by omega); have _q1 : w.heap.size + 1 < w1.heap.size := (by omega); have _q2 : w.heap.size + 1 + 1 < w1.heap.size := (by omega))
      | (go_at_call 62; refine (courseEnds_any c _ _ _ _ _ _ x bar.toNat ways vr (c + 1) _ _ w1 hc ho hs6 (by omega)).mono ?_; rintro e w3 ⟨v3, rfl, ho3, hb3⟩; have HO3 := Lib.hid ho3; clear ho3))
    refine bodyPost_ret (v := .tuple #[v3, .int .i64 0]) (by simp [results, Try.results28, go_sem, *]) rfl ?_
    exact ⟨v3, rfl, fun _ => Lib.hid (own_mono HO3.out (by omega)), fun h => absurd rfl h, bel⟩
  · have g1' : (agrErr x bar ways lo hi != 0) = true := by simp [g1]
    have G := Lib.hid g1
    clear g1
    go_enter Try.func28, Try.ntmps28
    go_wp2_with (go_at_call 66; refine (agreeing_any _ _ _ _ _ _ x bar ways lo hi B _ (h.on (n := w.heap.size) bel hB)).mono ?_; rintro e w1 ⟨p, rfl, hb1, hr1⟩; obtain ⟨_hr1, _hr2⟩ := below_reads hb1; have _hz := Below.size hb1; (try simp only [World.size_alloc, World.size_setCell, World.size_drew, World.heap_drewN] at _hz); obtain ⟨_hr3, _hr4⟩ := below_reads (show Below w.heap.size w w1 from bel); have _q0 : w.heap.size < w1.heap.size := (by omega); have _q1 : w.heap.size + 1 < w1.heap.size := (by omega); have _q2 : w.heap.size + 1 + 1 < w1.heap.size := (by omega))
    refine bodyPost_ret (v := .tuple #[.slice none 0 0, .int .i64 (agrErr x bar ways lo hi)]) (by simp [results, Try.results28, go_sem, *]) rfl ?_
    exact ⟨_, rfl, fun h => absurd h G.out, fun _ => rfl, bel⟩
end Go.Proofs.Ytigpefjeelgfdaa
