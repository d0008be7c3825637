/-
  HeatRanges returns true, for every works, recipe and history: the ranges of a recipe, and which hardnesses are a history of it, are what the definitions say, or the error. No condition.
-/
import Derived.Test.YtigpefjeelgfdaaB5
import Derived.ProofKit
import Derived.OpenShut
import Derived.Below
import Derived.ChangeSame
import Derived.ReadAgain
import Derived.Deep.Slices
set_option linter.unusedSimpArgs false
set_option linter.unusedVariables false
/-
  Walks of layer 1's statements: which works and ways are too great for a statement.
-/
namespace Go.Proofs.Ytigpefjeelgfdaa
open Go.RowKit

def longB (ks : List Kink) : Bool := decide (20 < ks.length)
def greatB (x : Works) : Bool := decide (10 < x.bars.length) || decide (10 < x.steps.length) || !(x.steps.all fun ws => !decide (8 < ws.length) && ws.all fun ks => !longB ks)

set_option maxHeartbeats 400000 in
theorem long_any (A : Option Addr) (c : Nat) (ks : List Kink) (w : World) (h1 : ks.length ≤ c) (h2 : c ≤ 9223372036854775807) :
    Calls Try.prog 15 #[.agg #[.slice A ks.length c]] w fun e w' => e = .returned (.bool (longB ks)) ∧ Below w.heap.size w w' := by
  by_cases g : 20 < ks.length
  · have R : Hid (longB ks = true) := Lib.hid (by simp [longB, g])
    have g2 : (20 : Int) < (ks.length : Int) := by omega
    go_enter Try.func15, Try.ntmps15
    go_wp2
    go_ret
    exact ⟨ret_bool (by rw [R.out]), (by repeat (first | (with_reducible assumption) | (with_reducible exact Below.refl _ _) | ((with_reducible refine Below.alloc ?_ ?_ _); rotate_left; (focus (first | omega | (simp only [World.size_alloc, World.size_setCell, World.size_drew, World.heap_drewN]; first | done | omega)))) | ((with_reducible refine Below.setCell ?_ ?_ _); rotate_left; (focus (first | omega | (simp only [World.size_alloc, World.size_setCell, World.size_drew, World.heap_drewN]; first | done | omega)))) | (with_reducible refine below_drewN ?_ _) | (with_reducible refine Below.drew ?_) | ((with_reducible refine Below.trans ?_ (Below.mono (by assumption) ?_)); rotate_left; (focus (first | omega | (simp only [World.size_alloc, World.size_setCell, World.size_drew, World.heap_drewN]; first | done | omega))))))⟩
  · have R : Hid (longB ks = false) := Lib.hid (by simp [longB, g])
    have g2 : ¬ (20 : Int) < (ks.length : Int) := by omega
    go_enter Try.func15, Try.ntmps15
    go_wp2
    go_ret
    exact ⟨ret_bool (by rw [R.out]), (by repeat (first | (with_reducible assumption) | (with_reducible exact Below.refl _ _) | ((with_reducible refine Below.alloc ?_ ?_ _); rotate_left; (focus (first | omega | (simp only [World.size_alloc, World.size_setCell, World.size_drew, World.heap_drewN]; first | done | omega)))) | ((with_reducible refine Below.setCell ?_ ?_ _); rotate_left; (focus (first | omega | (simp only [World.size_alloc, World.size_setCell, World.size_drew, World.heap_drewN]; first | done | omega)))) | (with_reducible refine below_drewN ?_ _) | (with_reducible refine Below.drew ?_) | ((with_reducible refine Below.trans ?_ (Below.mono (by assumption) ?_)); rotate_left; (focus (first | omega | (simp only [World.size_alloc, World.size_setCell, World.size_drew, World.heap_drewN]; first | done | omega))))))⟩

/-- Parts of it. -/
theorem greatB_all {x : Works} (h1 : ¬ 10 < x.bars.length) (h2 : ¬ 10 < x.steps.length) (h3 : (x.steps.all fun ws => !decide (8 < ws.length) && ws.all fun ks => !longB ks) = true) : Hid (greatB x = false) := Lib.hid (by simp only [greatB, h1, h2, h3]; rfl)
theorem greatB_some {x : Works} (h3 : (x.steps.all fun ws => !decide (8 < ws.length) && ws.all fun ks => !longB ks) = false) : Hid (greatB x = true) := Lib.hid (by simp only [greatB, h3]; simp)

set_option maxRecDepth 100000 in
set_option maxHeartbeats 4000000 in
theorem great_any (Ab As : Option Addr) (cb cs : Nat) (x : Works) (B : Nat) (w : World) (hbs : RgsA w B Ab x.bars) (hs : StepsA w B As x.steps) (hc : x.steps.length ≤ cs) (hm : cs ≤ 9223372036854775807) (hcb : x.bars.length ≤ cb) (hmb : cb ≤ 9223372036854775807) (hB : B ≤ w.heap.size) :
    Calls Try.prog 14 #[.agg #[.slice Ab x.bars.length cb, .slice As x.steps.length cs]] w fun e w' => e = .returned (.bool (greatB x)) ∧ Below w.heap.size w w' := by
  by_cases q1 : 10 < x.bars.length
  · have R : Hid (greatB x = true) := Lib.hid (by simp [greatB, q1])
    go_enter Try.func14, Try.ntmps14
    go_wp2_with fail
    go_ret
    exact ⟨ret_bool R.out.symm, (by repeat (first | (with_reducible assumption) | (with_reducible exact Below.refl _ _) | ((with_reducible refine Below.alloc ?_ ?_ _); rotate_left; (focus (first | omega | (simp only [World.size_alloc, World.size_setCell, World.size_drew, World.heap_drewN]; first | done | omega)))) | ((with_reducible refine Below.setCell ?_ ?_ _); rotate_left; (focus (first | omega | (simp only [World.size_alloc, World.size_setCell, World.size_drew, World.heap_drewN]; first | done | omega)))) | (with_reducible refine below_drewN ?_ _) | (with_reducible refine Below.drew ?_) | ((with_reducible refine Below.trans ?_ (Below.mono (by assumption) ?_)); rotate_left; (focus (first | omega | (simp only [World.size_alloc, World.size_setCell, World.size_drew, World.heap_drewN]; first | done | omega))))))⟩
  by_cases q2 : 10 < x.steps.length
  · have R : Hid (greatB x = true) := Lib.hid (by simp [greatB, q2])
    go_enter Try.func14, Try.ntmps14
    go_wp2_with fail
    go_ret
    exact ⟨ret_bool R.out.symm, (by repeat (first | (with_reducible assumption) | (with_reducible exact Below.refl _ _) | ((with_reducible refine Below.alloc ?_ ?_ _); rotate_left; (focus (first | omega | (simp only [World.size_alloc, World.size_setCell, World.size_drew, World.heap_drewN]; first | done | omega)))) | ((with_reducible refine Below.setCell ?_ ?_ _); rotate_left; (focus (first | omega | (simp only [World.size_alloc, World.size_setCell, World.size_drew, World.heap_drewN]; first | done | omega)))) | (with_reducible refine below_drewN ?_ _) | (with_reducible refine Below.drew ?_) | ((with_reducible refine Below.trans ?_ (Below.mono (by assumption) ?_)); rotate_left; (focus (first | omega | (simp only [World.size_alloc, World.size_setCell, World.size_drew, World.heap_drewN]; first | done | omega))))))⟩
  go_enter Try.func14, Try.ntmps14
  go_wp2_with fail
  go_loopw [3] (fun i wr => ∃ (k : Nat), k ≤ x.steps.length ∧ i = .int .i64 k ∧ Upto (fun ws => !decide (8 < ws.length) && ws.all fun ks => !longB ks) x.steps k ∧ Below w.heap.size w wr ∧ Box wr w.heap.size 25 #[.slice Ab x.bars.length cb, .slice As x.steps.length cs])
    (fun i _ => x.steps.length - (intOf i).toNat)
  case atStart =>
    refine ⟨0, by omega, rfl, Upto.zero _ _, (by repeat (first | (with_reducible assumption) | (with_reducible exact Below.refl _ _) | ((with_reducible refine Below.alloc ?_ ?_ _); rotate_left; (focus (first | omega | (simp only [World.size_alloc, World.size_setCell, World.size_drew, World.heap_drewN]; first | done | omega)))) | ((with_reducible refine Below.setCell ?_ ?_ _); rotate_left; (focus (first | omega | (simp only [World.size_alloc, World.size_setCell, World.size_drew, World.heap_drewN]; first | done | omega)))) | (with_reducible refine below_drewN ?_ _) | (with_reducible refine Below.drew ?_) | ((with_reducible refine Below.trans ?_ (Below.mono (by assumption) ?_)); rotate_left; (focus (first | omega | (simp only [World.size_alloc, World.size_setCell, World.size_drew, World.heap_drewN]; first | done | omega)))))), ?_⟩
    (refine Box.of_f ?_; repeat (first | ((with_reducible refine BoxF.done (by with_reducible assumption) ?_); rfl) | ((with_reducible refine BoxF.new ?_ ?_); (focus (first | omega | (simp only [World.size_alloc, World.size_setCell, World.size_drew, World.heap_drewN]; first | done | omega))); rfl) | ((with_reducible refine BoxF.alloc ?_ ?_); (focus (first | omega | (simp only [World.size_alloc, World.size_setCell, World.size_drew, World.heap_drewN]; first | done | omega)))) | (with_reducible refine BoxF.set ?_) | ((with_reducible refine BoxF.far ?_ ?_); ((try simp only []); omega)) | (with_reducible refine BoxF.drewN ?_) | (with_reducible refine BoxF.drew ?_) | ((with_reducible refine BoxF.below (by with_reducible assumption) ?_ ?_); (focus (first | omega | (simp only [World.size_alloc, World.size_setCell, World.size_drew, World.heap_drewN]; first | done | omega))))))
  case round =>
    obtain ⟨k, hk, rfl, hup, hbl, bw⟩ := hrel
    obtain ⟨u1, u2, u3, u4⟩ := bw.two
    have hz := bw.lt
    by_cases hlt : k < x.steps.length
    · obtain ⟨b, off, A', c', ws, rfl, hb, hx, d0, l1, l2, hws⟩ := stepsA hs hlt
      have d1 := (hbl.cell (p := ⟨b, off + k, none⟩) (by simp only []; omega)).trans d0
      have hbr : b < wr.heap.size := by omega
      by_cases p1 : 8 < ws.length
      · have R : Hid (greatB x = true) := greatB_some (Upto.fail hx (by simp [p1]))
        clear d0
        go_wp2_with fail
        go_ret
        exact ⟨ret_bool R.out.symm, (by repeat (first | (with_reducible assumption) | (with_reducible exact Below.refl _ _) | ((with_reducible refine Below.alloc ?_ ?_ _); rotate_left; (focus (first | omega | (simp only [World.size_alloc, World.size_setCell, World.size_drew, World.heap_drewN]; first | done | omega)))) | ((with_reducible refine Below.setCell ?_ ?_ _); rotate_left; (focus (first | omega | (simp only [World.size_alloc, World.size_setCell, World.size_drew, World.heap_drewN]; first | done | omega)))) | (with_reducible refine below_drewN ?_ _) | (with_reducible refine Below.drew ?_) | ((with_reducible refine Below.trans ?_ (Below.mono (by assumption) ?_)); rotate_left; (focus (first | omega | (simp only [World.size_alloc, World.size_setCell, World.size_drew, World.heap_drewN]; first | done | omega))))))⟩
      go_wp2_with fail
      obtain ⟨wp, rfl⟩ : ∃ wp : World, wp = wr := ⟨_, rfl⟩
      go_loopw [4] (fun i wr => ∃ (m : Nat), m ≤ ws.length ∧ i = .int .i64 m ∧ Upto (fun ks => !longB ks) ws m ∧ Below w.heap.size w wr ∧ Box wr w.heap.size 25 #[.slice Ab x.bars.length cb, .slice (some ⟨b, off, none⟩) x.steps.length cs])
        (fun i _ => ws.length - (intOf i).toNat)
      case atStart =>
        refine ⟨0, by omega, rfl, Upto.zero _ _, (by repeat (first | (with_reducible assumption) | (with_reducible exact Below.refl _ _) | ((with_reducible refine Below.alloc ?_ ?_ _); rotate_left; (focus (first | omega | (simp only [World.size_alloc, World.size_setCell, World.size_drew, World.heap_drewN]; first | done | omega)))) | ((with_reducible refine Below.setCell ?_ ?_ _); rotate_left; (focus (first | omega | (simp only [World.size_alloc, World.size_setCell, World.size_drew, World.heap_drewN]; first | done | omega)))) | (with_reducible refine below_drewN ?_ _) | (with_reducible refine Below.drew ?_) | ((with_reducible refine Below.trans ?_ (Below.mono (by assumption) ?_)); rotate_left; (focus (first | omega | (simp only [World.size_alloc, World.size_setCell, World.size_drew, World.heap_drewN]; first | done | omega)))))), ?_⟩
        (refine Box.of_f ?_; repeat (first | ((with_reducible refine BoxF.done (by with_reducible assumption) ?_); rfl) | ((with_reducible refine BoxF.new ?_ ?_); (focus (first | omega | (simp only [World.size_alloc, World.size_setCell, World.size_drew, World.heap_drewN]; first | done | omega))); rfl) | ((with_reducible refine BoxF.alloc ?_ ?_); (focus (first | omega | (simp only [World.size_alloc, World.size_setCell, World.size_drew, World.heap_drewN]; first | done | omega)))) | (with_reducible refine BoxF.set ?_) | ((with_reducible refine BoxF.far ?_ ?_); ((try simp only []); omega)) | (with_reducible refine BoxF.drewN ?_) | (with_reducible refine BoxF.drew ?_) | ((with_reducible refine BoxF.below (by with_reducible assumption) ?_ ?_); (focus (first | omega | (simp only [World.size_alloc, World.size_setCell, World.size_drew, World.heap_drewN]; first | done | omega))))))
      case round =>
        obtain ⟨m, hm', rfl, hup2, hbl2, bw2⟩ := hrel
        obtain ⟨u1, u2, u3, u4⟩ := bw2.two
        have hz2 := bw2.lt
        have d1 := (hbl2.cell (p := ⟨b, off + k, none⟩) (by simp only []; omega)).trans d0
        have hbr : b < wr.heap.size := by omega
        by_cases hlt2 : m < ws.length
        · obtain ⟨b2, off2, A2, c2, ks, rfl, hb2, hx2, e0, l3, l4, hks⟩ := waysA hws hlt2
          have e1 := (hbl2.cell (p := ⟨b2, off2 + m, none⟩) (by simp only []; omega)).trans e0
          have hbr2 : b2 < wr.heap.size := by omega
          cases g : longB ks
          · have G := Lib.hid g
            clear g
            go_wp2_with (go_at_call 15; refine (long_any _ _ ks _ l3 l4).mono ?_; rintro e w2 ⟨rfl, hb2⟩; rw [G.out]; obtain ⟨_hr1, _hr2⟩ := below_reads hb2; have _hz := Below.size hb2; (try simp only [World.size_alloc, World.size_setCell, World.size_drew, World.heap_drewN] at _hz))
            go_roundw
            case rel =>
              refine ⟨m + 1, by omega, by go_num, hup2.succ hx2 (by simp [G.out]), (by repeat (first | (with_reducible assumption) | (with_reducible exact Below.refl _ _) | ((with_reducible refine Below.alloc ?_ ?_ _); rotate_left; (focus (first | omega | (simp only [World.size_alloc, World.size_setCell, World.size_drew, World.heap_drewN]; first | done | omega)))) | ((with_reducible refine Below.setCell ?_ ?_ _); rotate_left; (focus (first | omega | (simp only [World.size_alloc, World.size_setCell, World.size_drew, World.heap_drewN]; first | done | omega)))) | (with_reducible refine below_drewN ?_ _) | (with_reducible refine Below.drew ?_) | ((with_reducible refine Below.trans ?_ (Below.mono (by assumption) ?_)); rotate_left; (focus (first | omega | (simp only [World.size_alloc, World.size_setCell, World.size_drew, World.heap_drewN]; first | done | omega)))))), ?_⟩
              (refine Box.of_f ?_; repeat (first | ((with_reducible refine BoxF.done (by with_reducible assumption) ?_); rfl) | ((with_reducible refine BoxF.new ?_ ?_); (focus (first | omega | (simp only [World.size_alloc, World.size_setCell, World.size_drew, World.heap_drewN]; first | done | omega))); rfl) | ((with_reducible refine BoxF.alloc ?_ ?_); (focus (first | omega | (simp only [World.size_alloc, World.size_setCell, World.size_drew, World.heap_drewN]; first | done | omega)))) | (with_reducible refine BoxF.set ?_) | ((with_reducible refine BoxF.far ?_ ?_); ((try simp only []); omega)) | (with_reducible refine BoxF.drewN ?_) | (with_reducible refine BoxF.drew ?_) | ((with_reducible refine BoxF.below (by with_reducible assumption) ?_ ?_); (focus (first | omega | (simp only [World.size_alloc, World.size_setCell, World.size_drew, World.heap_drewN]; first | done | omega))))))
            case measure => simp [intOf]; omega
          · have R : Hid (greatB x = true) := greatB_some (Upto.fail hx (by rw [Bool.and_eq_false_iff]; right; exact Upto.fail hx2 (by rw [g]; rfl)))
            have G := Lib.hid g
            clear g
            go_wp2_with (go_at_call 15; refine (long_any _ _ ks _ l3 l4).mono ?_; rintro e w2 ⟨rfl, hb2⟩; rw [G.out]; obtain ⟨_hr1, _hr2⟩ := below_reads hb2; have _hz := Below.size hb2; (try simp only [World.size_alloc, World.size_setCell, World.size_drew, World.heap_drewN] at _hz))
            go_ret
            exact ⟨ret_bool R.out.symm, (by repeat (first | (with_reducible assumption) | (with_reducible exact Below.refl _ _) | ((with_reducible refine Below.alloc ?_ ?_ _); rotate_left; (focus (first | omega | (simp only [World.size_alloc, World.size_setCell, World.size_drew, World.heap_drewN]; first | done | omega)))) | ((with_reducible refine Below.setCell ?_ ?_ _); rotate_left; (focus (first | omega | (simp only [World.size_alloc, World.size_setCell, World.size_drew, World.heap_drewN]; first | done | omega)))) | (with_reducible refine below_drewN ?_ _) | (with_reducible refine Below.drew ?_) | ((with_reducible refine Below.trans ?_ (Below.mono (by assumption) ?_)); rotate_left; (focus (first | omega | (simp only [World.size_alloc, World.size_setCell, World.size_drew, World.heap_drewN]; first | done | omega))))))⟩
        · have ok : (!decide (8 < ws.length) && ws.all fun ks => !longB ks) = true := by
            rw [hup2.done (by omega)]
            simp [p1]
          have OK := Lib.hid ok
          clear ok hup2
          go_wp2_with fail
          go_roundw
          case rel =>
            refine ⟨k + 1, by omega, by go_num, hup.succ hx OK.out, (by repeat (first | (with_reducible assumption) | (with_reducible exact Below.refl _ _) | ((with_reducible refine Below.alloc ?_ ?_ _); rotate_left; (focus (first | omega | (simp only [World.size_alloc, World.size_setCell, World.size_drew, World.heap_drewN]; first | done | omega)))) | ((with_reducible refine Below.setCell ?_ ?_ _); rotate_left; (focus (first | omega | (simp only [World.size_alloc, World.size_setCell, World.size_drew, World.heap_drewN]; first | done | omega)))) | (with_reducible refine below_drewN ?_ _) | (with_reducible refine Below.drew ?_) | ((with_reducible refine Below.trans ?_ (Below.mono (by assumption) ?_)); rotate_left; (focus (first | omega | (simp only [World.size_alloc, World.size_setCell, World.size_drew, World.heap_drewN]; first | done | omega)))))), ?_⟩
            (refine Box.of_f ?_; repeat (first | ((with_reducible refine BoxF.done (by with_reducible assumption) ?_); rfl) | ((with_reducible refine BoxF.new ?_ ?_); (focus (first | omega | (simp only [World.size_alloc, World.size_setCell, World.size_drew, World.heap_drewN]; first | done | omega))); rfl) | ((with_reducible refine BoxF.alloc ?_ ?_); (focus (first | omega | (simp only [World.size_alloc, World.size_setCell, World.size_drew, World.heap_drewN]; first | done | omega)))) | (with_reducible refine BoxF.set ?_) | ((with_reducible refine BoxF.far ?_ ?_); ((try simp only []); omega)) | (with_reducible refine BoxF.drewN ?_) | (with_reducible refine BoxF.drew ?_) | ((with_reducible refine BoxF.below (by with_reducible assumption) ?_ ?_); (focus (first | omega | (simp only [World.size_alloc, World.size_setCell, World.size_drew, World.heap_drewN]; first | done | omega))))))
          case measure => simp [intOf]; omega
    · have R : Hid (greatB x = false) := greatB_all q1 q2 (hup.done (by omega))
      clear hup
      go_wp2_with fail
      go_ret
      exact ⟨ret_bool R.out.symm, (by repeat (first | (with_reducible assumption) | (with_reducible exact Below.refl _ _) | ((with_reducible refine Below.alloc ?_ ?_ _); rotate_left; (focus (first | omega | (simp only [World.size_alloc, World.size_setCell, World.size_drew, World.heap_drewN]; first | done | omega)))) | ((with_reducible refine Below.setCell ?_ ?_ _); rotate_left; (focus (first | omega | (simp only [World.size_alloc, World.size_setCell, World.size_drew, World.heap_drewN]; first | done | omega)))) | (with_reducible refine below_drewN ?_ _) | (with_reducible refine Below.drew ?_) | ((with_reducible refine Below.trans ?_ (Below.mono (by assumption) ?_)); rotate_left; (focus (first | omega | (simp only [World.size_alloc, World.size_setCell, World.size_drew, World.heap_drewN]; first | done | omega))))))⟩
end Go.Proofs.Ytigpefjeelgfdaa

/-
  Walks of layer 1's statements: HeatWays.
-/
namespace Go.Proofs.Ytigpefjeelgfdaa
open Go.RowKit

theorem aftV_cases (ks : List Kink) (hard : Int) : ∃ lo hi er : Int, aftV ks hard = .tuple #[.agg #[.int .i64 lo, .int .i64 hi], .int .i64 er] := by
  unfold aftV
  split
  · split
    · exact ⟨_, _, _, rfl⟩
    · exact ⟨_, _, _, rfl⟩
  · exact ⟨_, _, _, rfl⟩
/-- What is laid beside it is as it was. -/
theorem box_cells2 {W : World} {g : Nat} {t : TypeId} {a b : Value} (h : Box W g t #[a, b]) : Hid (∀ V, Below W.heap.size W V → V.cell? ⟨g, 0, none⟩ = some a ∧ V.cell? ⟨g, 0 + 1, none⟩ = some b) :=
  Lib.hid fun V hV => ⟨(Box.below h hV h.lt).cell 0, (Box.below h hV h.lt).cell 1⟩
theorem box_cells1 {W : World} {g : Nat} {t : TypeId} {a : Value} (h : Box W g t #[a]) : Hid (∀ V, Below W.heap.size W V → V.cell? ⟨g, 0, none⟩ = some a) :=
  Lib.hid fun V hV => (Box.below h hV h.lt).cell 0

set_option maxRecDepth 100000 in
set_option maxHeartbeats 4000000 in
theorem waysLaw_any (Ab As Ak : Option Addr) (cb cs ck : Nat) (x : Works) (ks : List Kink) (hard : Int) (B : Nat) (w : World) (hbs : RgsA w B Ab x.bars) (hs : StepsA w B As x.steps) (hc : x.steps.length ≤ cs) (hm : cs ≤ 9223372036854775807) (hcb : x.bars.length ≤ cb) (hmb : cb ≤ 9223372036854775807)
    (hk : KinksA w B Ak ks) (hck : ks.length ≤ ck) (hmk : ck ≤ 9223372036854775807) (hB : B ≤ w.heap.size) :
    Calls Try.prog 3 #[.agg #[.slice Ab x.bars.length cb, .slice As x.steps.length cs], .agg #[.slice Ak ks.length ck], .int .i64 hard] w fun e w' => e = .returned (.bool true) ∧ Below w.heap.size w w' := by
  have hgr : ∀ W : World, Below w.heap.size w W → Calls Try.prog 14 #[.agg #[.slice Ab x.bars.length cb, .slice As x.steps.length cs]] W fun e w' => e = .returned (.bool (greatB x)) ∧ Below W.heap.size W w' :=
    fun W hW => great_any Ab As cb cs x B W (rgs_on hbs hW hB) (steps_on hs hW hB) hc hm hcb hmb (Nat.le_trans hB hW.size)
  have HG := Lib.hid hgr
  have hlo : ∀ W : World, Below w.heap.size w W → Calls Try.prog 15 #[.agg #[.slice Ak ks.length ck]] W fun e w' => e = .returned (.bool (longB ks)) ∧ Below W.heap.size W w' := fun W _ => long_any Ak ck ks W hck hmk
  have HL := Lib.hid hlo
  have ha1 : ∀ W : World, Below w.heap.size w W → Calls Try.prog 17 #[.agg #[.slice Ak ks.length ck], .int .i64 hard] W fun e w' => e = .returned (aftV ks hard) ∧ Below W.heap.size W w' := fun W hW => heatAfterX_any Ak ck ks hard B W (kinks_on hk hW hB) hck hmk (Nat.le_trans hB hW.size)
  have HA1 := Lib.hid ha1
  have ha2 : ∀ W : World, Below w.heap.size w W → Calls Try.prog 18 #[.agg #[.slice Ak ks.length ck], .int .i64 hard] W fun e w' => e = .returned (aftV ks hard) ∧ Below W.heap.size W w' := fun W hW => refAfterX_any Ak ck ks hard B W (kinks_on hk hW hB) hck hmk (Nat.le_trans hB hW.size)
  have HA2 := Lib.hid ha2
  have hy1 : ∀ W : World, Below w.heap.size w W → Calls Try.prog 19 #[.agg #[.slice Ak ks.length ck]] W fun e w' => e = .returned (.int .i64 (wayErr ks)) ∧ Below W.heap.size W w' := fun W hW => heatCheckWay_any Ak ck ks B W (kinks_on hk hW hB) hck hmk (Nat.le_trans hB hW.size)
  have HY1 := Lib.hid hy1
  have hy2 : ∀ W : World, Below w.heap.size w W → Calls Try.prog 20 #[.agg #[.slice Ak ks.length ck]] W fun e w' => e = .returned (.int .i64 (wayErr ks)) ∧ Below W.heap.size W w' := fun W hW => refCheckWay_any Ak ck ks B W (kinks_on hk hW hB) hck hmk (Nat.le_trans hB hW.size)
  have HY2 := Lib.hid hy2
  have hw1 : ∀ W : World, Below w.heap.size w W → Calls Try.prog 21 #[.agg #[.slice Ab x.bars.length cb, .slice As x.steps.length cs]] W fun e w' => e = .returned (.int .i64 (worksErr x)) ∧ Below W.heap.size W w' :=
    fun W hW => heatCheckWorks_any Ab As cb cs x B W (rgs_on hbs hW hB) (steps_on hs hW hB) hc hm hcb hmb (Nat.le_trans hB hW.size)
  have HW1 := Lib.hid hw1
  have hw2 : ∀ W : World, Below w.heap.size w W → Calls Try.prog 22 #[.agg #[.slice Ab x.bars.length cb, .slice As x.steps.length cs]] W fun e w' => e = .returned (.int .i64 (worksErr x)) ∧ Below W.heap.size W w' :=
    fun W hW => refCheckWorks_any Ab As cb cs x B W (rgs_on hbs hW hB) (steps_on hs hW hB) hc hm hcb hmb (Nat.le_trans hB hW.size)
  have HW2 := Lib.hid hw2
  obtain ⟨lo, hi, er, hae⟩ := aftV_cases ks hard
  have AE := Lib.hid hae
  clear hgr hlo ha1 ha2 hy1 hy2 hw1 hw2 hae hbs hs hk
  have hlen : ∀ n : Nat, n ≤ n := fun n => Nat.le_refl n
  clear hlen
  generalize x.bars.length = nb at *
  generalize x.steps.length = ns at *
  generalize hkl : ks.length = nk at *
  clear hkl
  cases hg : greatB x
  · have G := Lib.hid hg
    clear hg
    cases hl : longB ks
    · have L := Lib.hid hl
      clear hl
      go_enter Try.func3, Try.ntmps3
      go_wp2_with (first
        | (go_at_call 14; refine (HG.out _ (by repeat (first | (with_reducible assumption) | (with_reducible exact Below.refl _ _) | ((with_reducible refine Below.alloc ?_ ?_ _); rotate_left; (focus (first | omega | (simp only [World.size_alloc, World.size_setCell, World.size_drew, World.heap_drewN]; first | done | omega)))) | ((with_reducible refine Below.setCell ?_ ?_ _); rotate_left; (focus (first | omega | (simp only [World.size_alloc, World.size_setCell, World.size_drew, World.heap_drewN]; first | done | omega)))) | (with_reducible refine below_drewN ?_ _) | (with_reducible refine Below.drew ?_) | ((with_reducible refine Below.trans ?_ (Below.mono (by assumption) ?_)); rotate_left; (focus (first | omega | (simp only [World.size_alloc, World.size_setCell, World.size_drew, World.heap_drewN]; first | done | omega))))))).mono ?_; rintro e w1 ⟨rfl, hb1⟩; rw [G.out]; obtain ⟨_hr1, _hr2⟩ := below_reads hb1; have _hz := Below.size hb1; (try simp only [World.size_alloc, World.size_setCell, World.size_drew, World.heap_drewN] at _hz); obtain ⟨_hr3, _hr4⟩ := below_reads (show Below w.heap.size w w1 from (by repeat (first | (with_reducible assumption) | (with_reducible exact Below.refl _ _) | ((with_reducible refine Below.alloc ?_ ?_ _); rotate_left; (focus (first | omega | (simp only [World.size_alloc, World.size_setCell, World.size_drew, World.heap_drewN]; first | done | omega)))) | ((with_reducible refine Below.setCell ?_ ?_ _); rotate_left; (focus (first | omega | (simp only [World.size_alloc, World.size_setCell, World.size_drew, World.heap_drewN]; first | done | omega)))) | (with_reducible refine below_drewN ?_ _) | (with_reducible refine Below.drew ?_) | ((with_reducible refine Below.trans ?_ (Below.mono (by assumption) ?_)); rotate_left; (focus (first | omega | (simp only [World.size_alloc, World.size_setCell, World.size_drew, World.heap_drewN]; first | done | omega))))))); have _q0 : w.heap.size < w1.heap.size := (by omega); have _q1 : w.heap.size + 1 < w1.heap.size := (by omega))
        | (go_at_call 15; refine (HL.out _ (by repeat (first | (with_reducible assumption) | (with_reducible exact Below.refl _ _) | ((with_reducible refine Below.alloc ?_ ?_ _); rotate_left; (focus (first | omega | (simp only [World.size_alloc, World.size_setCell, World.size_drew, World.heap_drewN]; first | done | omega)))) | ((with_reducible refine Below.setCell ?_ ?_ _); rotate_left; (focus (first | omega | (simp only [World.size_alloc, World.size_setCell, World.size_drew, World.heap_drewN]; first | done | omega)))) | (with_reducible refine below_drewN ?_ _) | (with_reducible refine Below.drew ?_) | ((with_reducible refine Below.trans ?_ (Below.mono (by assumption) ?_)); rotate_left; (focus (first | omega | (simp only [World.size_alloc, World.size_setCell, World.size_drew, World.heap_drewN]; first | done | omega))))))).mono ?_; rintro e w2 ⟨rfl, hb2⟩; rw [L.out]; obtain ⟨_hr1, _hr2⟩ := below_reads hb2; have _hz := Below.size hb2; (try simp only [World.size_alloc, World.size_setCell, World.size_drew, World.heap_drewN] at _hz); obtain ⟨_hr3, _hr4⟩ := below_reads (show Below w.heap.size w w2 from (by repeat (first | (with_reducible assumption) | (with_reducible exact Below.refl _ _) | ((with_reducible refine Below.alloc ?_ ?_ _); rotate_left; (focus (first | omega | (simp only [World.size_alloc, World.size_setCell, World.size_drew, World.heap_drewN]; first | done | omega)))) | ((with_reducible refine Below.setCell ?_ ?_ _); rotate_left; (focus (first | omega | (simp only [World.size_alloc, World.size_setCell, World.size_drew, World.heap_drewN]; first | done | omega)))) | (with_reducible refine below_drewN ?_ _) | (with_reducible refine Below.drew ?_) | ((with_reducible refine Below.trans ?_ (Below.mono (by assumption) ?_)); rotate_left; (focus (first | omega | (simp only [World.size_alloc, World.size_setCell, World.size_drew, World.heap_drewN]; first | done | omega))))))); have _q0 : w.heap.size < w2.heap.size := (by omega); have _q1 : w.heap.size + 1 < w2.heap.size := (by omega))
        | (go_at_call 17; refine (HA1.out _ (by repeat (first | (with_reducible assumption) | (with_reducible exact Below.refl _ _) | ((with_reducible refine Below.alloc ?_ ?_ _); rotate_left; (focus (first | omega | (simp only [World.size_alloc, World.size_setCell, World.size_drew, World.heap_drewN]; first | done | omega)))) | ((with_reducible refine Below.setCell ?_ ?_ _); rotate_left; (focus (first | omega | (simp only [World.size_alloc, World.size_setCell, World.size_drew, World.heap_drewN]; first | done | omega)))) | (with_reducible refine below_drewN ?_ _) | (with_reducible refine Below.drew ?_) | ((with_reducible refine Below.trans ?_ (Below.mono (by assumption) ?_)); rotate_left; (focus (first | omega | (simp only [World.size_alloc, World.size_setCell, World.size_drew, World.heap_drewN]; first | done | omega))))))).mono ?_; rintro e w3 ⟨rfl, hb3⟩; rw [AE.out]; obtain ⟨_hr1, _hr2⟩ := below_reads hb3; have _hz := Below.size hb3; (try simp only [World.size_alloc, World.size_setCell, World.size_drew, World.heap_drewN] at _hz); obtain ⟨_hr3, _hr4⟩ := below_reads (show Below w.heap.size w w3 from (by repeat (first | (with_reducible assumption) | (with_reducible exact Below.refl _ _) | ((with_reducible refine Below.alloc ?_ ?_ _); rotate_left; (focus (first | omega | (simp only [World.size_alloc, World.size_setCell, World.size_drew, World.heap_drewN]; first | done | omega)))) | ((with_reducible refine Below.setCell ?_ ?_ _); rotate_left; (focus (first | omega | (simp only [World.size_alloc, World.size_setCell, World.size_drew, World.heap_drewN]; first | done | omega)))) | (with_reducible refine below_drewN ?_ _) | (with_reducible refine Below.drew ?_) | ((with_reducible refine Below.trans ?_ (Below.mono (by assumption) ?_)); rotate_left; (focus (first | omega | (simp only [World.size_alloc, World.size_setCell, World.size_drew, World.heap_drewN]; first | done | omega))))))); have _q0 : w.heap.size < w3.heap.size := (by omega); have _q1 : w.heap.size + 1 < w3.heap.size := (by omega))
        | (go_at_call 18; refine (HA2.out _ (by repeat (first | (with_reducible assumption) | (with_reducible exact Below.refl _ _) | ((with_reducible refine Below.alloc ?_ ?_ _); rotate_left; (focus (first | omega | (simp only [World.size_alloc, World.size_setCell, World.size_drew, World.heap_drewN]; first | done | omega)))) | ((with_reducible refine Below.setCell ?_ ?_ _); rotate_left; (focus (first | omega | (simp only [World.size_alloc, World.size_setCell, World.size_drew, World.heap_drewN]; first | done | omega)))) | (with_reducible refine below_drewN ?_ _) | (with_reducible refine Below.drew ?_) | ((with_reducible refine Below.trans ?_ (Below.mono (by assumption) ?_)); rotate_left; (focus (first | omega | (simp only [World.size_alloc, World.size_setCell, World.size_drew, World.heap_drewN]; first | done | omega))))))).mono ?_; rintro e w4 ⟨rfl, hb4⟩; rw [AE.out]; obtain ⟨_hr1, _hr2⟩ := below_reads hb4; have _hz := Below.size hb4; (try simp only [World.size_alloc, World.size_setCell, World.size_drew, World.heap_drewN] at _hz); obtain ⟨_hr3, _hr4⟩ := below_reads (show Below w.heap.size w w4 from (by repeat (first | (with_reducible assumption) | (with_reducible exact Below.refl _ _) | ((with_reducible refine Below.alloc ?_ ?_ _); rotate_left; (focus (first | omega | (simp only [World.size_alloc, World.size_setCell, World.size_drew, World.heap_drewN]; first | done | omega)))) | ((with_reducible refine Below.setCell ?_ ?_ _); rotate_left; (focus (first | omega | (simp only [World.size_alloc, World.size_setCell, World.size_drew, World.heap_drewN]; first | done | omega)))) | (with_reducible refine below_drewN ?_ _) | (with_reducible refine Below.drew ?_) | ((with_reducible refine Below.trans ?_ (Below.mono (by assumption) ?_)); rotate_left; (focus (first | omega | (simp only [World.size_alloc, World.size_setCell, World.size_drew, World.heap_drewN]; first | done | omega))))))); have _q0 : w.heap.size < w4.heap.size := (by omega); have _q1 : w.heap.size + 1 < w4.heap.size := (by omega)))
      have hW : Below w.heap.size w (w4.alloc (.cells #[.int .i64 lo, .int .i64 hi] 33)) := (by repeat (first | (with_reducible assumption) | (with_reducible exact Below.refl _ _) | ((with_reducible refine Below.alloc ?_ ?_ _); rotate_left; (focus (first | omega | (simp only [World.size_alloc, World.size_setCell, World.size_drew, World.heap_drewN]; first | done | omega)))) | ((with_reducible refine Below.setCell ?_ ?_ _); rotate_left; (focus (first | omega | (simp only [World.size_alloc, World.size_setCell, World.size_drew, World.heap_drewN]; first | done | omega)))) | (with_reducible refine below_drewN ?_ _) | (with_reducible refine Below.drew ?_) | ((with_reducible refine Below.trans ?_ (Below.mono (by assumption) ?_)); rotate_left; (focus (first | omega | (simp only [World.size_alloc, World.size_setCell, World.size_drew, World.heap_drewN]; first | done | omega))))))
      have z1 := hb1.size
      have z2 := hb2.size
      have z3 := hb3.size
      have z4 := hb4.size
      simp only [World.size_alloc] at z1 z2 z3 z4
      have B3 : Box (w4.alloc (.cells #[.int .i64 lo, .int .i64 hi] 33)) w.heap.size 25 #[.slice Ab nb cb, .slice As ns cs] := by (refine Box.of_f ?_; repeat (first | ((with_reducible refine BoxF.done (by with_reducible assumption) ?_); rfl) | ((with_reducible refine BoxF.new ?_ ?_); (focus (first | omega | (simp only [World.size_alloc, World.size_setCell, World.size_drew, World.heap_drewN]; first | done | omega))); rfl) | ((with_reducible refine BoxF.alloc ?_ ?_); (focus (first | omega | (simp only [World.size_alloc, World.size_setCell, World.size_drew, World.heap_drewN]; first | done | omega)))) | (with_reducible refine BoxF.set ?_) | ((with_reducible refine BoxF.far ?_ ?_); ((try simp only []); omega)) | (with_reducible refine BoxF.drewN ?_) | (with_reducible refine BoxF.drew ?_) | ((with_reducible refine BoxF.below (by with_reducible assumption) ?_ ?_); (focus (first | omega | (simp only [World.size_alloc, World.size_setCell, World.size_drew, World.heap_drewN]; first | done | omega))))))
      have B4 : Box (w4.alloc (.cells #[.int .i64 lo, .int .i64 hi] 33)) (w.heap.size + 1) 28 #[.slice Ak nk ck] := by (refine Box.of_f ?_; repeat (first | ((with_reducible refine BoxF.done (by with_reducible assumption) ?_); rfl) | ((with_reducible refine BoxF.new ?_ ?_); (focus (first | omega | (simp only [World.size_alloc, World.size_setCell, World.size_drew, World.heap_drewN]; first | done | omega))); rfl) | ((with_reducible refine BoxF.alloc ?_ ?_); (focus (first | omega | (simp only [World.size_alloc, World.size_setCell, World.size_drew, World.heap_drewN]; first | done | omega)))) | (with_reducible refine BoxF.set ?_) | ((with_reducible refine BoxF.far ?_ ?_); ((try simp only []); omega)) | (with_reducible refine BoxF.drewN ?_) | (with_reducible refine BoxF.drew ?_) | ((with_reducible refine BoxF.below (by with_reducible assumption) ?_ ?_); (focus (first | omega | (simp only [World.size_alloc, World.size_setCell, World.size_drew, World.heap_drewN]; first | done | omega))))))
      have B7 : Box (w4.alloc (.cells #[.int .i64 lo, .int .i64 hi] 33)) w3.heap.size 33 #[.int .i64 lo, .int .i64 hi] := by (refine Box.of_f ?_; repeat (first | ((with_reducible refine BoxF.done (by with_reducible assumption) ?_); rfl) | ((with_reducible refine BoxF.new ?_ ?_); (focus (first | omega | (simp only [World.size_alloc, World.size_setCell, World.size_drew, World.heap_drewN]; first | done | omega))); rfl) | ((with_reducible refine BoxF.alloc ?_ ?_); (focus (first | omega | (simp only [World.size_alloc, World.size_setCell, World.size_drew, World.heap_drewN]; first | done | omega)))) | (with_reducible refine BoxF.set ?_) | ((with_reducible refine BoxF.far ?_ ?_); ((try simp only []); omega)) | (with_reducible refine BoxF.drewN ?_) | (with_reducible refine BoxF.drew ?_) | ((with_reducible refine BoxF.below (by with_reducible assumption) ?_ ?_); (focus (first | omega | (simp only [World.size_alloc, World.size_setCell, World.size_drew, World.heap_drewN]; first | done | omega))))))
      have B9 : Box (w4.alloc (.cells #[.int .i64 lo, .int .i64 hi] 33)) w4.heap.size 33 #[.int .i64 lo, .int .i64 hi] := Box.new _ _ _
      generalize w4.alloc (.cells #[.int .i64 lo, .int .i64 hi] 33) = W at hW B3 B4 B7 B9 ⊢
      have H3 := box_cells2 B3
      have H4 := box_cells1 B4
      have H7 := box_cells2 B7
      have H9 := box_cells2 B9
      generalize w3.heap.size = t7 at H7 ⊢
      generalize w4.heap.size = t9 at H9 ⊢
      have h0 : ∀ V, Below W.heap.size W V → Below w.heap.size w V := fun V hV => hW.trans (hV.mono hW.size)
      have H0 := Lib.hid h0
      have g2 : Below W.heap.size W W := Below.refl _ _
      -- region 5
      refine wp_region_facts (F := ?_) [Fact.eq (.agg #[.slice Ak nk ck]), Fact.eq (.int .i64 (wayErr ks)), Fact.eq (.agg #[.slice Ak nk ck]), Fact.eq (.int .i64 (wayErr ks)), Fact.eq (.bool true), Fact.eq (.bool true), Fact.eq (.agg #[.slice Ab nb cb, .slice As ns cs]), Fact.eq (.int .i64 (worksErr x)), Fact.eq (.agg #[.slice Ab nb cb, .slice As ns cs]), Fact.eq (.int .i64 (worksErr x)), Fact.eq (.bool true), Fact.eq (.bool true), Fact.eq (.bool true), Fact.eq (.agg #[.int .i64 lo, .int .i64 hi]), Fact.eq (.agg #[.int .i64 lo, .int .i64 hi]), Fact.eq (.bool true), Fact.eq (.bool true), Fact.eq (.bool true), Fact.eq (.int .i64 er), Fact.eq (.int .i64 er), Fact.eq (.bool true), Fact.eq (.bool true), Fact.eq (.bool true), Fact.eq (.bool true), Fact.eq (.bool true), Fact.eq (.bool true)] (by kernel_rfl) (by kernel_rfl) (by kernel_rfl) (by intro x; simp only [List.map_cons, List.map_nil, putAll, Act.put, List.setIfInBounds_toArray, List.set_cons_zero, List.set_cons_succ, Nat.zero_add, Nat.reduceAdd]; rfl) ?_ ?_
      · refine StepsF.cons (fun x V hV hp K hK => ?_) ?_
        · have _c0 := H4.out V (g2.trans (hV.mono g2.size))
          go_simp
          exact hK.out _ _ rfl (Below.refl _ _)
        refine StepsF.cons (fun x V hV hp K hK => ?_) ?_
        · have _e := depsAll_get hp 0 (by kernel_rfl); change x 0 = _ at _e; generalize x 0 = _y at _e hK ⊢; subst _e
          go_simp
          refine Calls.mono (HY1.out V (H0.out V (g2.trans (hV.mono g2.size)))) ?_
          rintro e v1 ⟨rfl, hb⟩
          exact hK.out _ _ rfl hb
        refine StepsF.cons (fun x V hV hp K hK => ?_) ?_
        · have _c0 := H4.out V (g2.trans (hV.mono g2.size))
          go_simp
          exact hK.out _ _ rfl (Below.refl _ _)
        refine StepsF.cons (fun x V hV hp K hK => ?_) ?_
        · have _e := depsAll_get hp 2 (by kernel_rfl); change x 2 = _ at _e; generalize x 2 = _y at _e hK ⊢; subst _e
          go_simp
          refine Calls.mono (HY2.out V (H0.out V (g2.trans (hV.mono g2.size)))) ?_
          rintro e v1 ⟨rfl, hb⟩
          exact hK.out _ _ rfl hb
        refine StepsF.cons (fun x V hV hp K hK => ?_) ?_
        · have _e := depsAll_get hp 1 (by kernel_rfl); change x 1 = _ at _e; generalize x 1 = _y at _e hK ⊢; subst _e
          have _e := depsAll_get hp 3 (by kernel_rfl); change x 3 = _ at _e; generalize x 3 = _y at _e hK ⊢; subst _e
          go_simp
          exact hK.out _ _ rfl (Below.refl _ _)
        refine StepsF.cons (fun x V hV hp K hK => ?_) ?_
        · have _e := depsAll_get hp 4 (by kernel_rfl); change x 4 = _ at _e; generalize x 4 = _y at _e hK ⊢; subst _e
          go_simp
          exact hK.out _ _ rfl (Below.refl _ _)
        refine StepsF.cons (fun x V hV hp K hK => ?_) ?_
        · have _e := depsAll_get hp 5 (by kernel_rfl); change x 5 = _ at _e; generalize x 5 = _y at _e hK ⊢; subst _e
          obtain ⟨_c0, _c1⟩ := H3.out V (g2.trans (hV.mono g2.size))
          go_simp
          exact hK.out _ _ rfl (Below.refl _ _)
        refine StepsF.cons (fun x V hV hp K hK => ?_) ?_
        · have _e := depsAll_get hp 5 (by kernel_rfl); change x 5 = _ at _e; generalize x 5 = _y at _e hK ⊢; subst _e
          have _e := depsAll_get hp 6 (by kernel_rfl); change x 6 = _ at _e; generalize x 6 = _y at _e hK ⊢; subst _e
          go_simp
          refine Calls.mono (HW1.out V (H0.out V (g2.trans (hV.mono g2.size)))) ?_
          rintro e v1 ⟨rfl, hb⟩
          exact hK.out _ _ rfl hb
        refine StepsF.cons (fun x V hV hp K hK => ?_) ?_
        · have _e := depsAll_get hp 5 (by kernel_rfl); change x 5 = _ at _e; generalize x 5 = _y at _e hK ⊢; subst _e
          obtain ⟨_c0, _c1⟩ := H3.out V (g2.trans (hV.mono g2.size))
          go_simp
          exact hK.out _ _ rfl (Below.refl _ _)
        refine StepsF.cons (fun x V hV hp K hK => ?_) ?_
        · have _e := depsAll_get hp 5 (by kernel_rfl); change x 5 = _ at _e; generalize x 5 = _y at _e hK ⊢; subst _e
          have _e := depsAll_get hp 8 (by kernel_rfl); change x 8 = _ at _e; generalize x 8 = _y at _e hK ⊢; subst _e
          go_simp
          refine Calls.mono (HW2.out V (H0.out V (g2.trans (hV.mono g2.size)))) ?_
          rintro e v1 ⟨rfl, hb⟩
          exact hK.out _ _ rfl hb
        refine StepsF.cons (fun x V hV hp K hK => ?_) ?_
        · have _e := depsAll_get hp 5 (by kernel_rfl); change x 5 = _ at _e; generalize x 5 = _y at _e hK ⊢; subst _e
          have _e := depsAll_get hp 7 (by kernel_rfl); change x 7 = _ at _e; generalize x 7 = _y at _e hK ⊢; subst _e
          have _e := depsAll_get hp 9 (by kernel_rfl); change x 9 = _ at _e; generalize x 9 = _y at _e hK ⊢; subst _e
          go_simp
          exact hK.out _ _ rfl (Below.refl _ _)
        refine StepsF.cons (fun x V hV hp K hK => ?_) ?_
        · have _e := depsAll_get hp 5 (by kernel_rfl); change x 5 = _ at _e; generalize x 5 = _y at _e hK ⊢; subst _e
          have _e := depsAll_get hp 10 (by kernel_rfl); change x 10 = _ at _e; generalize x 10 = _y at _e hK ⊢; subst _e
          go_simp
          exact hK.out _ _ rfl (Below.refl _ _)
        refine StepsF.cons (fun x V hV hp K hK => ?_) ?_
        · have _e := depsAll_get hp 11 (by kernel_rfl); change x 11 = _ at _e; generalize x 11 = _y at _e hK ⊢; subst _e
          go_simp
          exact hK.out _ _ rfl (Below.refl _ _)
        refine StepsF.cons (fun x V hV hp K hK => ?_) ?_
        · have _e := depsAll_get hp 12 (by kernel_rfl); change x 12 = _ at _e; generalize x 12 = _y at _e hK ⊢; subst _e
          obtain ⟨_c0, _c1⟩ := H7.out V (g2.trans (hV.mono g2.size))
          go_simp
          exact hK.out _ _ rfl (Below.refl _ _)
        refine StepsF.cons (fun x V hV hp K hK => ?_) ?_
        · have _e := depsAll_get hp 12 (by kernel_rfl); change x 12 = _ at _e; generalize x 12 = _y at _e hK ⊢; subst _e
          obtain ⟨_c0, _c1⟩ := H9.out V (g2.trans (hV.mono g2.size))
          go_simp
          exact hK.out _ _ rfl (Below.refl _ _)
        refine StepsF.cons (fun x V hV hp K hK => ?_) ?_
        · have _e := depsAll_get hp 12 (by kernel_rfl); change x 12 = _ at _e; generalize x 12 = _y at _e hK ⊢; subst _e
          have _e := depsAll_get hp 13 (by kernel_rfl); change x 13 = _ at _e; generalize x 13 = _y at _e hK ⊢; subst _e
          have _e := depsAll_get hp 14 (by kernel_rfl); change x 14 = _ at _e; generalize x 14 = _y at _e hK ⊢; subst _e
          go_simp
          exact hK.out _ _ rfl (Below.refl _ _)
        refine StepsF.cons (fun x V hV hp K hK => ?_) ?_
        · have _e := depsAll_get hp 12 (by kernel_rfl); change x 12 = _ at _e; generalize x 12 = _y at _e hK ⊢; subst _e
          have _e := depsAll_get hp 15 (by kernel_rfl); change x 15 = _ at _e; generalize x 15 = _y at _e hK ⊢; subst _e
          go_simp
          exact hK.out _ _ rfl (Below.refl _ _)
        refine StepsF.cons (fun x V hV hp K hK => ?_) ?_
        · have _e := depsAll_get hp 16 (by kernel_rfl); change x 16 = _ at _e; generalize x 16 = _y at _e hK ⊢; subst _e
          go_simp
          exact hK.out _ _ rfl (Below.refl _ _)
        refine StepsF.cons (fun x V hV hp K hK => ?_) ?_
        · have _e := depsAll_get hp 17 (by kernel_rfl); change x 17 = _ at _e; generalize x 17 = _y at _e hK ⊢; subst _e
          go_simp
          exact hK.out _ _ rfl (Below.refl _ _)
        refine StepsF.cons (fun x V hV hp K hK => ?_) ?_
        · have _e := depsAll_get hp 17 (by kernel_rfl); change x 17 = _ at _e; generalize x 17 = _y at _e hK ⊢; subst _e
          go_simp
          exact hK.out _ _ rfl (Below.refl _ _)
        refine StepsF.cons (fun x V hV hp K hK => ?_) ?_
        · have _e := depsAll_get hp 17 (by kernel_rfl); change x 17 = _ at _e; generalize x 17 = _y at _e hK ⊢; subst _e
          have _e := depsAll_get hp 18 (by kernel_rfl); change x 18 = _ at _e; generalize x 18 = _y at _e hK ⊢; subst _e
          have _e := depsAll_get hp 19 (by kernel_rfl); change x 19 = _ at _e; generalize x 19 = _y at _e hK ⊢; subst _e
          go_simp
          exact hK.out _ _ rfl (Below.refl _ _)
        refine StepsF.cons (fun x V hV hp K hK => ?_) ?_
        · have _e := depsAll_get hp 17 (by kernel_rfl); change x 17 = _ at _e; generalize x 17 = _y at _e hK ⊢; subst _e
          have _e := depsAll_get hp 20 (by kernel_rfl); change x 20 = _ at _e; generalize x 20 = _y at _e hK ⊢; subst _e
          go_simp
          exact hK.out _ _ rfl (Below.refl _ _)
        refine StepsF.cons (fun x V hV hp K hK => ?_) ?_
        · have _e := depsAll_get hp 21 (by kernel_rfl); change x 21 = _ at _e; generalize x 21 = _y at _e hK ⊢; subst _e
          go_simp
          exact hK.out _ _ rfl (Below.refl _ _)
        refine StepsF.cons (fun x V hV hp K hK => ?_) ?_
        · have _e := depsAll_get hp 22 (by kernel_rfl); change x 22 = _ at _e; generalize x 22 = _y at _e hK ⊢; subst _e
          go_simp
          refine Calls.mono (works_any V) ?_
          rintro e v1 ⟨rfl, hb⟩
          exact hK.out _ _ rfl hb
        refine StepsF.cons (fun x V hV hp K hK => ?_) ?_
        · have _e := depsAll_get hp 22 (by kernel_rfl); change x 22 = _ at _e; generalize x 22 = _y at _e hK ⊢; subst _e
          have _e := depsAll_get hp 23 (by kernel_rfl); change x 23 = _ at _e; generalize x 23 = _y at _e hK ⊢; subst _e
          go_simp
          exact hK.out _ _ rfl (Below.refl _ _)
        refine StepsF.cons (fun x V hV hp K hK => ?_) ?_
        · have _e := depsAll_get hp 24 (by kernel_rfl); change x 24 = _ at _e; generalize x 24 = _y at _e hK ⊢; subst _e
          go_simp
          exact hK.out _ _ rfl (Below.refl _ _)
        exact StepsF.nil
      intro x v5 hV hall
      have g5 : Below W.heap.size W v5 := g2.trans (hV.mono g2.size)
      have _e := hall 25 (by decide)
      change x 25 = _ at _e
      generalize x 25 = _y at _e ⊢
      subst _e
      have D5 := Lib.hid hV
      clear hV hall
      go_wp2_with fail
      go_ret
      exact ⟨rfl, H0.out _ g5⟩
    · have L := Lib.hid hl
      clear hl
      go_enter Try.func3, Try.ntmps3
      go_wp2_with (first
        | (go_at_call 14; refine (HG.out _ (by repeat (first | (with_reducible assumption) | (with_reducible exact Below.refl _ _) | ((with_reducible refine Below.alloc ?_ ?_ _); rotate_left; (focus (first | omega | (simp only [World.size_alloc, World.size_setCell, World.size_drew, World.heap_drewN]; first | done | omega)))) | ((with_reducible refine Below.setCell ?_ ?_ _); rotate_left; (focus (first | omega | (simp only [World.size_alloc, World.size_setCell, World.size_drew, World.heap_drewN]; first | done | omega)))) | (with_reducible refine below_drewN ?_ _) | (with_reducible refine Below.drew ?_) | ((with_reducible refine Below.trans ?_ (Below.mono (by assumption) ?_)); rotate_left; (focus (first | omega | (simp only [World.size_alloc, World.size_setCell, World.size_drew, World.heap_drewN]; first | done | omega))))))).mono ?_; rintro e w1 ⟨rfl, hb1⟩; rw [G.out]; obtain ⟨_hr1, _hr2⟩ := below_reads hb1; have _hz := Below.size hb1; (try simp only [World.size_alloc, World.size_setCell, World.size_drew, World.heap_drewN] at _hz); obtain ⟨_hr3, _hr4⟩ := below_reads (show Below w.heap.size w w1 from (by repeat (first | (with_reducible assumption) | (with_reducible exact Below.refl _ _) | ((with_reducible refine Below.alloc ?_ ?_ _); rotate_left; (focus (first | omega | (simp only [World.size_alloc, World.size_setCell, World.size_drew, World.heap_drewN]; first | done | omega)))) | ((with_reducible refine Below.setCell ?_ ?_ _); rotate_left; (focus (first | omega | (simp only [World.size_alloc, World.size_setCell, World.size_drew, World.heap_drewN]; first | done | omega)))) | (with_reducible refine below_drewN ?_ _) | (with_reducible refine Below.drew ?_) | ((with_reducible refine Below.trans ?_ (Below.mono (by assumption) ?_)); rotate_left; (focus (first | omega | (simp only [World.size_alloc, World.size_setCell, World.size_drew, World.heap_drewN]; first | done | omega))))))); have _q0 : w.heap.size < w1.heap.size := (by omega); have _q1 : w.heap.size + 1 < w1.heap.size := (by omega))
        | (go_at_call 15; refine (HL.out _ (by repeat (first | (with_reducible assumption) | (with_reducible exact Below.refl _ _) | ((with_reducible refine Below.alloc ?_ ?_ _); rotate_left; (focus (first | omega | (simp only [World.size_alloc, World.size_setCell, World.size_drew, World.heap_drewN]; first | done | omega)))) | ((with_reducible refine Below.setCell ?_ ?_ _); rotate_left; (focus (first | omega | (simp only [World.size_alloc, World.size_setCell, World.size_drew, World.heap_drewN]; first | done | omega)))) | (with_reducible refine below_drewN ?_ _) | (with_reducible refine Below.drew ?_) | ((with_reducible refine Below.trans ?_ (Below.mono (by assumption) ?_)); rotate_left; (focus (first | omega | (simp only [World.size_alloc, World.size_setCell, World.size_drew, World.heap_drewN]; first | done | omega))))))).mono ?_; rintro e w2 ⟨rfl, hb2⟩; rw [L.out]; obtain ⟨_hr1, _hr2⟩ := below_reads hb2; have _hz := Below.size hb2; (try simp only [World.size_alloc, World.size_setCell, World.size_drew, World.heap_drewN] at _hz); obtain ⟨_hr3, _hr4⟩ := below_reads (show Below w.heap.size w w2 from (by repeat (first | (with_reducible assumption) | (with_reducible exact Below.refl _ _) | ((with_reducible refine Below.alloc ?_ ?_ _); rotate_left; (focus (first | omega | (simp only [World.size_alloc, World.size_setCell, World.size_drew, World.heap_drewN]; first | done | omega)))) | ((with_reducible refine Below.setCell ?_ ?_ _); rotate_left; (focus (first | omega | (simp only [World.size_alloc, World.size_setCell, World.size_drew, World.heap_drewN]; first | done | omega)))) | (with_reducible refine below_drewN ?_ _) | (with_reducible refine Below.drew ?_) | ((with_reducible refine Below.trans ?_ (Below.mono (by assumption) ?_)); rotate_left; (focus (first | omega | (simp only [World.size_alloc, World.size_setCell, World.size_drew, World.heap_drewN]; first | done | omega))))))); have _q0 : w.heap.size < w2.heap.size := (by omega); have _q1 : w.heap.size + 1 < w2.heap.size := (by omega))
        | (go_at_call 16; refine (works_any _).mono ?_; rintro e w3 ⟨rfl, hb3⟩; obtain ⟨_hr1, _hr2⟩ := below_reads hb3; have _hz := Below.size hb3; (try simp only [World.size_alloc, World.size_setCell, World.size_drew, World.heap_drewN] at _hz); obtain ⟨_hr3, _hr4⟩ := below_reads (show Below w.heap.size w w3 from (by repeat (first | (with_reducible assumption) | (with_reducible exact Below.refl _ _) | ((with_reducible refine Below.alloc ?_ ?_ _); rotate_left; (focus (first | omega | (simp only [World.size_alloc, World.size_setCell, World.size_drew, World.heap_drewN]; first | done | omega)))) | ((with_reducible refine Below.setCell ?_ ?_ _); rotate_left; (focus (first | omega | (simp only [World.size_alloc, World.size_setCell, World.size_drew, World.heap_drewN]; first | done | omega)))) | (with_reducible refine below_drewN ?_ _) | (with_reducible refine Below.drew ?_) | ((with_reducible refine Below.trans ?_ (Below.mono (by assumption) ?_)); rotate_left; (focus (first | omega | (simp only [World.size_alloc, World.size_setCell, World.size_drew, World.heap_drewN]; first | done | omega))))))); have _q0 : w.heap.size < w3.heap.size := (by omega); have _q1 : w.heap.size + 1 < w3.heap.size := (by omega)))
      go_ret
      exact ⟨rfl, (by repeat (first | (with_reducible assumption) | (with_reducible exact Below.refl _ _) | ((with_reducible refine Below.alloc ?_ ?_ _); rotate_left; (focus (first | omega | (simp only [World.size_alloc, World.size_setCell, World.size_drew, World.heap_drewN]; first | done | omega)))) | ((with_reducible refine Below.setCell ?_ ?_ _); rotate_left; (focus (first | omega | (simp only [World.size_alloc, World.size_setCell, World.size_drew, World.heap_drewN]; first | done | omega)))) | (with_reducible refine below_drewN ?_ _) | (with_reducible refine Below.drew ?_) | ((with_reducible refine Below.trans ?_ (Below.mono (by assumption) ?_)); rotate_left; (focus (first | omega | (simp only [World.size_alloc, World.size_setCell, World.size_drew, World.heap_drewN]; first | done | omega))))))⟩
  · have G := Lib.hid hg
    clear hg
    go_enter Try.func3, Try.ntmps3
    go_wp2_with (first
      | (go_at_call 14; refine (HG.out _ (by repeat (first | (with_reducible assumption) | (with_reducible exact Below.refl _ _) | ((with_reducible refine Below.alloc ?_ ?_ _); rotate_left; (focus (first | omega | (simp only [World.size_alloc, World.size_setCell, World.size_drew, World.heap_drewN]; first | done | omega)))) | ((with_reducible refine Below.setCell ?_ ?_ _); rotate_left; (focus (first | omega | (simp only [World.size_alloc, World.size_setCell, World.size_drew, World.heap_drewN]; first | done | omega)))) | (with_reducible refine below_drewN ?_ _) | (with_reducible refine Below.drew ?_) | ((with_reducible refine Below.trans ?_ (Below.mono (by assumption) ?_)); rotate_left; (focus (first | omega | (simp only [World.size_alloc, World.size_setCell, World.size_drew, World.heap_drewN]; first | done | omega))))))).mono ?_; rintro e w1 ⟨rfl, hb1⟩; rw [G.out]; obtain ⟨_hr1, _hr2⟩ := below_reads hb1; have _hz := Below.size hb1; (try simp only [World.size_alloc, World.size_setCell, World.size_drew, World.heap_drewN] at _hz); obtain ⟨_hr3, _hr4⟩ := below_reads (show Below w.heap.size w w1 from (by repeat (first | (with_reducible assumption) | (with_reducible exact Below.refl _ _) | ((with_reducible refine Below.alloc ?_ ?_ _); rotate_left; (focus (first | omega | (simp only [World.size_alloc, World.size_setCell, World.size_drew, World.heap_drewN]; first | done | omega)))) | ((with_reducible refine Below.setCell ?_ ?_ _); rotate_left; (focus (first | omega | (simp only [World.size_alloc, World.size_setCell, World.size_drew, World.heap_drewN]; first | done | omega)))) | (with_reducible refine below_drewN ?_ _) | (with_reducible refine Below.drew ?_) | ((with_reducible refine Below.trans ?_ (Below.mono (by assumption) ?_)); rotate_left; (focus (first | omega | (simp only [World.size_alloc, World.size_setCell, World.size_drew, World.heap_drewN]; first | done | omega))))))); have _q0 : w.heap.size < w1.heap.size := (by omega); have _q1 : w.heap.size + 1 < w1.heap.size := (by omega))
      | (go_at_call 16; refine (works_any _).mono ?_; rintro e w3 ⟨rfl, hb3⟩; obtain ⟨_hr1, _hr2⟩ := below_reads hb3; have _hz := Below.size hb3; (try simp only [World.size_alloc, World.size_setCell, World.size_drew, World.heap_drewN] at _hz); obtain ⟨_hr3, _hr4⟩ := below_reads (show Below w.heap.size w w3 from (by repeat (first | (with_reducible assumption) | (with_reducible exact Below.refl _ _) | ((with_reducible refine Below.alloc ?_ ?_ _); rotate_left; (focus (first | omega | (simp only [World.size_alloc, World.size_setCell, World.size_drew, World.heap_drewN]; first | done | omega)))) | ((with_reducible refine Below.setCell ?_ ?_ _); rotate_left; (focus (first | omega | (simp only [World.size_alloc, World.size_setCell, World.size_drew, World.heap_drewN]; first | done | omega)))) | (with_reducible refine below_drewN ?_ _) | (with_reducible refine Below.drew ?_) | ((with_reducible refine Below.trans ?_ (Below.mono (by assumption) ?_)); rotate_left; (focus (first | omega | (simp only [World.size_alloc, World.size_setCell, World.size_drew, World.heap_drewN]; first | done | omega))))))); have _q0 : w.heap.size < w3.heap.size := (by omega); have _q1 : w.heap.size + 1 < w3.heap.size := (by omega)))
    go_ret
    exact ⟨rfl, (by repeat (first | (with_reducible assumption) | (with_reducible exact Below.refl _ _) | ((with_reducible refine Below.alloc ?_ ?_ _); rotate_left; (focus (first | omega | (simp only [World.size_alloc, World.size_setCell, World.size_drew, World.heap_drewN]; first | done | omega)))) | ((with_reducible refine Below.setCell ?_ ?_ _); rotate_left; (focus (first | omega | (simp only [World.size_alloc, World.size_setCell, World.size_drew, World.heap_drewN]; first | done | omega)))) | (with_reducible refine below_drewN ?_ _) | (with_reducible refine Below.drew ?_) | ((with_reducible refine Below.trans ?_ (Below.mono (by assumption) ?_)); rotate_left; (focus (first | omega | (simp only [World.size_alloc, World.size_setCell, World.size_drew, World.heap_drewN]; first | done | omega))))))⟩
end Go.Proofs.Ytigpefjeelgfdaa

/-
  Walks of layer 1's reference: the ranges of a recipe.
-/
namespace Go.Proofs.Ytigpefjeelgfdaa
open Go.RowKit

/-- The ranges of the first parts of a recipe, as cells. -/
def rngTo (x : Works) (m : Nat) (ways : List Int) (n : Nat) : List Value := ((List.range n).map (rngN x m ways)).flatMap rgV
theorem rngTo_succ (x : Works) (m : Nat) (ways : List Int) (k : Nat) : rngTo x m ways (k + 1) = rngTo x m ways k ++ [.int .i64 (rngN x m ways k).1, .int .i64 (rngN x m ways k).2] := by
  unfold rngTo
  rw [List.range_succ, List.map_append, List.flatMap_append]
  rfl
theorem own_first {w : World} {g : Nat} {t : TypeId} {a b : Value} {base : Nat} (h : Box w g t #[a, b]) (hb : base ≤ g) : w.ownsRow base t 2 (.slice (some ⟨g, 0, none⟩) 1 1) 1 [a, b] :=
  ⟨rfl, .inr ⟨g, 1, #[a, b], rfl, hb, h, Nat.le_refl _, by decide, rfl, rfl⟩⟩
theorem box_keep_gb {w w' : World} {g base n size : Nat} {t e : TypeId} {cs : Array Value} {v : Value} {xs : List Value} (h : Box w g t cs) (ho : w.ownsRow base e size v n xs) (hg : w.grownBy w' v.ownBlock) (hlt : g < base) : Box w' g t cs := by
  refine (hg.block g h.lt fun e => ?_).trans h
  rcases ho.2 with ⟨rfl, _⟩ | ⟨g', cap, cur, rfl, hb, _⟩
  · cases e
  · simp only [Value.ownBlock, Option.some.injEq] at e
    omega
theorem below_gb {w a w' : World} {base n size : Nat} {e : TypeId} {v : Value} {xs : List Value} (hb : Below w.heap.size w a) (ho : a.ownsRow base e size v n xs) (hg : a.grownBy w' v.ownBlock) (hlt : w.heap.size ≤ base) : Below w.heap.size w w' := by
  refine hb.trans (gb_to_below hg hb.size fun g h => ?_)
  rcases ho.2 with ⟨rfl, _⟩ | ⟨g', cap, cur, rfl, hb', _⟩
  · cases h
  · simp only [Value.ownBlock, Option.some.injEq] at h
    omega
theorem wayBox {w : World} {g : Nat} {t : TypeId} {a : Value} (h : Box w g t #[a]) : w.cell? ⟨g, 0, none⟩ = some a := h.cell 0

set_option maxRecDepth 100000 in
set_option maxHeartbeats 4000000 in
theorem refranges_ok (Ab As Ar : Option Addr) (cb cs cr : Nat) (x : Works) (m : Nat) (ways : List Int) (B : Nat) (w : World) (h : In w B Ab As Ar cb cs cr x ways) (ok : RecOk x (m : Int) ways) :
    CallsF 64 #[.agg #[.slice Ab x.bars.length cb, .slice As x.steps.length cs], .agg #[.int .i64 m, .slice Ar ways.length cr]] w (Fact.rgs ((List.range (x.steps.length + 1)).map (rngN x m ways))) := by
  have hwl : Hid (ways.length = x.steps.length) := ok.len
  have hs6 := steps_few ok.works
  have hmb : m < x.bars.length := by have := ok.bar1; omega
  have hmb' : (m : Int) < (x.bars.length : Int) := by omega
  obtain ⟨b0, o0, lo0, hi0, rfl, hb0, hx0, e0, e1⟩ := rgsA h.bars hmb
  have hr0 : Hid (rngN x m ways 0 = (lo0, hi0)) := rgAt_of hx0
  have hB := h.le
  have hbw : b0 < w.heap.size := by omega
  have nn : (0 : Int) ≤ (m : Int) := by omega
  obtain ⟨i0, hi', hy0, hy1, hy2⟩ := info_parts infoRange
  go_enter Try.func64, Try.ntmps64
  go_wp2_with fail
  have ht0 : Hid ([.int .i64 lo0, .int .i64 hi0] = rngTo x m ways 1) := Lib.hid (by rw [rngTo_succ, hr0.out]; rfl)
  go_loopw [6, 7] (fun out i wr => ∃ (k : Nat) (vr : Value) (lo hi : Int), k ≤ ways.length ∧ i = .int .i64 k ∧ vr = out ∧ Hid (rngN x m ways k = (lo, hi)) ∧ Hid (wr.ownsRow (w.heap.size + 3) 33 2 vr (k + 1) (rngTo x m ways (k + 1))) ∧ Below w.heap.size w wr ∧
        Box wr w.heap.size 25 #[.slice (some ⟨b0, o0, none⟩) x.bars.length cb, .slice As x.steps.length cs] ∧ Box wr (w.heap.size + 1) 42 #[.int .i64 m, .slice Ar ways.length cr] ∧ Box wr (w.heap.size + 2) 33 #[.int .i64 lo, .int .i64 hi])
      (fun _ i _ => ways.length - (intOf i).toNat)
  case atStart =>
    refine ⟨0, _, lo0, hi0, by omega, rfl, rfl, hr0, Lib.hid ?_, (by repeat (first | (with_reducible assumption) | (with_reducible exact Below.refl _ _) | ((with_reducible refine Below.alloc ?_ ?_ _); rotate_left; (focus (first | omega | (simp only [World.size_alloc, World.size_setCell, World.size_drew, World.heap_drewN]; first | done | omega)))) | ((with_reducible refine Below.setCell ?_ ?_ _); rotate_left; (focus (first | omega | (simp only [World.size_alloc, World.size_setCell, World.size_drew, World.heap_drewN]; first | done | omega)))) | (with_reducible refine below_drewN ?_ _) | (with_reducible refine Below.drew ?_) | ((with_reducible refine Below.trans ?_ (Below.mono (by assumption) ?_)); rotate_left; (focus (first | omega | (simp only [World.size_alloc, World.size_setCell, World.size_drew, World.heap_drewN]; first | done | omega)))))), ?_, ?_, ?_⟩
    · rw [← ht0.out]
      exact own_first (Box.new' (by simp)) (by simp)
    all_goals (refine Box.of_f ?_; repeat (first | ((with_reducible refine BoxF.done (by with_reducible assumption) ?_); rfl) | ((with_reducible refine BoxF.new ?_ ?_); (focus (first | omega | (simp only [World.size_alloc, World.size_setCell, World.size_drew, World.heap_drewN]; first | done | omega))); rfl) | ((with_reducible refine BoxF.alloc ?_ ?_); (focus (first | omega | (simp only [World.size_alloc, World.size_setCell, World.size_drew, World.heap_drewN]; first | done | omega)))) | (with_reducible refine BoxF.set ?_) | ((with_reducible refine BoxF.far ?_ ?_); ((try simp only []); omega)) | (with_reducible refine BoxF.drewN ?_) | (with_reducible refine BoxF.drew ?_) | ((with_reducible refine BoxF.below (by with_reducible assumption) ?_ ?_); (focus (first | omega | (simp only [World.size_alloc, World.size_setCell, World.size_drew, World.heap_drewN]; first | done | omega))))))
  case round =>
    obtain ⟨k, vr, lo, hi, hk, rfl, rfl, hrk, hov, hbl, bw, br, bn⟩ := hrel
    obtain ⟨u5, u6, u7, u8⟩ := bw.two
    obtain ⟨t5, t6, t7, t8⟩ := br.two
    obtain ⟨n5, n6, n7, n8⟩ := bn.two
    have hz1 := bw.lt
    have hz2 := br.lt
    have hz3 := bn.lt
    by_cases hlt : k < ways.length
    · obtain ⟨b1, o1, b2, o2, b3, o3, A1, A2, c1, c2, ws, mm, ks, rfl, rfl, rfl, hb1', hb2', hb3', hm, f1, f2, f3, l1, l2, l3, l4, hks, hwo, hwe, hne0, _⟩ := way_at h.steps h.rways ok (i := k) (by have := hwl.out; omega)
      have f1' := (hbl.cell (p := ⟨b1, o1 + k, none⟩) (by simp only []; omega)).trans f1
      have f2' := (hbl.cell (p := ⟨b2, o2 + k, none⟩) (by simp only []; omega)).trans f2
      have f3' := (hbl.cell (p := ⟨b3, o3 + mm, none⟩) (by simp only []; omega)).trans f3
      have v1 : b1 < wr.heap.size := by omega
      have v2 : b2 < wr.heap.size := by omega
      have v3 : b3 < wr.heap.size := by omega
      have s7 : (k : Int) < (ways.length : Int) := by omega
      have s8 : (mm : Int) < (ws.length : Int) := by omega
      have s9 : (k : Int) < (x.steps.length : Int) := by have := hwl.out; omega
      have hrk1 : Hid (rngN x m ways (k + 1) = ((aft ks lo).1, (aft ks hi).2)) := Lib.hid (by show ((aft (wayOf x ways k) (rngN x m ways k).1).1, (aft (wayOf x ways k) (rngN x m ways k).2).2) = _; rw [hwo.out, hrk.out])
      clear hwe hwo
      go_wp2_with fail
      have hcells : ∀ V, Below wr.heap.size wr V → (V.cell? ⟨w.heap.size, 0 + 1, none⟩ = some (.slice (some ⟨b1, o1, none⟩) x.steps.length cs) ∧ V.cell? ⟨w.heap.size + 1, 0 + 1, none⟩ = some (.slice (some ⟨b2, o2, none⟩) ways.length cr) ∧
          V.cell? ⟨b1, o1 + k, none⟩ = some (.slice (some ⟨b3, o3, none⟩) ws.length c1) ∧ V.cell? ⟨b2, o2 + k, none⟩ = some (.int .i64 mm) ∧ V.cell? ⟨b3, o3 + mm, none⟩ = some (.slice A2 ks.length c2)) :=
        fun V hV => ⟨(Box.below bw hV hz1).cell 1, (Box.below br hV hz2).cell 1, (hV.cell (p := ⟨b1, o1 + k, none⟩) v1).trans f1', (hV.cell (p := ⟨b2, o2 + k, none⟩) v2).trans f2', (hV.cell (p := ⟨b3, o3 + mm, none⟩) v3).trans f3'⟩
      have HC := Lib.hid hcells
      clear hcells
      go_region_held3 (fun V => V.cell? ⟨w.heap.size, 0 + 1, none⟩ = some (.slice (some ⟨b1, o1, none⟩) x.steps.length cs) ∧ V.cell? ⟨w.heap.size + 1, 0 + 1, none⟩ = some (.slice (some ⟨b2, o2, none⟩) ways.length cr) ∧
          V.cell? ⟨b1, o1 + k, none⟩ = some (.slice (some ⟨b3, o3, none⟩) ws.length c1) ∧ V.cell? ⟨b2, o2 + k, none⟩ = some (.int .i64 mm) ∧ V.cell? ⟨b3, o3 + mm, none⟩ = some (.slice A2 ks.length c2)) ((exact HC.out _ (by repeat (first | (with_reducible assumption) | (with_reducible exact Below.refl _ _) | ((with_reducible refine Below.alloc ?_ ?_ _); rotate_left; (focus (first | omega | (simp only [World.size_alloc, World.size_setCell, World.size_drew, World.heap_drewN]; first | done | omega)))) | ((with_reducible refine Below.setCell ?_ ?_ _); rotate_left; (focus (first | omega | (simp only [World.size_alloc, World.size_setCell, World.size_drew, World.heap_drewN]; first | done | omega)))) | (with_reducible refine below_drewN ?_ _) | (with_reducible refine Below.drew ?_) | ((with_reducible refine Below.trans ?_ (Below.mono (by assumption) ?_)); rotate_left; (focus (first | omega | (simp only [World.size_alloc, World.size_setCell, World.size_drew, World.heap_drewN]; first | done | omega)))))))) (fail)
      go_wp2_with fail
      generalize hW0 : (wr.alloc (.cells #[.slice A2 ks.length c2] 28)).drew = W0
      have hbl0 : Below wr.heap.size wr W0 := by rw [← hW0]; exact (by repeat (first | (with_reducible assumption) | (with_reducible exact Below.refl _ _) | ((with_reducible refine Below.alloc ?_ ?_ _); rotate_left; (focus (first | omega | (simp only [World.size_alloc, World.size_setCell, World.size_drew, World.heap_drewN]; first | done | omega)))) | ((with_reducible refine Below.setCell ?_ ?_ _); rotate_left; (focus (first | omega | (simp only [World.size_alloc, World.size_setCell, World.size_drew, World.heap_drewN]; first | done | omega)))) | (with_reducible refine below_drewN ?_ _) | (with_reducible refine Below.drew ?_) | ((with_reducible refine Below.trans ?_ (Below.mono (by assumption) ?_)); rotate_left; (focus (first | omega | (simp only [World.size_alloc, World.size_setCell, World.size_drew, World.heap_drewN]; first | done | omega))))))
      have bk : Box W0 wr.heap.size 28 #[.slice A2 ks.length c2] := by rw [← hW0]; (refine Box.of_f ?_; repeat (first | ((with_reducible refine BoxF.done (by with_reducible assumption) ?_); rfl) | ((with_reducible refine BoxF.new ?_ ?_); (focus (first | omega | (simp only [World.size_alloc, World.size_setCell, World.size_drew, World.heap_drewN]; first | done | omega))); rfl) | ((with_reducible refine BoxF.alloc ?_ ?_); (focus (first | omega | (simp only [World.size_alloc, World.size_setCell, World.size_drew, World.heap_drewN]; first | done | omega)))) | (with_reducible refine BoxF.set ?_) | ((with_reducible refine BoxF.far ?_ ?_); ((try simp only []); omega)) | (with_reducible refine BoxF.drewN ?_) | (with_reducible refine BoxF.drew ?_) | ((with_reducible refine BoxF.below (by with_reducible assumption) ?_ ?_); (focus (first | omega | (simp only [World.size_alloc, World.size_setCell, World.size_drew, World.heap_drewN]; first | done | omega))))))
      have bw0 := Box.below bw hbl0 hz1
      have br0 := Box.below br hbl0 hz2
      have bn0 := Box.below bn hbl0 hz3
      have ho0 : Hid (W0.ownsRow (w.heap.size + 3) 33 2 vr (k + 1) (rngTo x m ways (k + 1))) := Lib.hid (own_later hov.out hbl0)
      clear hW0 f1 f2 f3 f1' f2' f3' u5 u6 u7 u8 t5 t6 t7 t8 n5 n6 n7 n8 HC
      obtain ⟨k5, k6⟩ := bk.one
      obtain ⟨n5, n6, n7, n8⟩ := bn0.two
      have hk0 := bk.lt
      have hn0 := bn0.lt
      have hzw := hbl0.size
      obtain ⟨a1, a2, hal⟩ : ∃ a1 a2, aft ks lo = (a1, a2) := ⟨_, _, rfl⟩
      obtain ⟨e1, e2, hah⟩ : ∃ a1 a2, aft ks hi = (a1, a2) := ⟨_, _, rfl⟩
      have hkl : ∀ n : Int, ∀ W : World, Below W0.heap.size W0 W → Calls Try.prog 55 #[.agg #[.slice A2 ks.length c2], .int .i64 n] W fun e w' => e = .returned (.agg #[.int .i64 (aft ks n).1, .int .i64 (aft ks n).2]) ∧ Below W.heap.size W w' :=
        fun n W hW => refAfter_any A2 c2 ks n B W (kinks_on hks (n := w.heap.size) (hbl.trans ((hbl0.trans (hW.mono hzw)).mono hbl.size)) hB) l3 l4 (by have := hW.size; omega) hne0
      have h1 := hkl lo
      have h2 := hkl hi
      rw [hal] at h1
      rw [hah] at h2
      have H1 := Lib.hid h1
      have H2 := Lib.hid h2
      have HN : Hid (rngN x m ways (k + 1) = (a1, e2)) := Lib.hid (by rw [hrk1.out, hal, hah])
      clear hkl h1 h2 hal hah hrk1
      refine wp_region_later_tail 11 (by kernel_rfl) (by kernel_rfl) ?_
      simp only [List.take_succ_cons, List.take_zero, List.drop_succ_cons, List.drop_zero]
      have _hl := later_reads W0
      (repeat (go_big_quiet_step ((go_at_call 55; exact LaterW.callsB (fun W hW => H1.out W hW)))))
      refine wpQuiet_field (.agg #[.int .i64 a1, .int .i64 a2]) (.int .i64 a1) rfl (run_field_lo a1 a2) ?_
      simp only [Act.put, List.setIfInBounds_toArray, List.set_cons_zero, List.set_cons_succ]
      (repeat (go_big_quiet_step ((go_at_call 55; exact LaterW.callsB (fun W hW => H2.out W hW)))))
      refine wpQuiet_field (.agg #[.int .i64 e1, .int .i64 e2]) (.int .i64 e2) rfl (run_field_hi e1 e2) ?_
      simp only [Act.put, List.setIfInBounds_toArray, List.set_cons_zero, List.set_cons_succ]
      (repeat (go_big_quiet_step ((go_at_call 55; exact LaterW.callsB (fun W hW => H2.out W hW)))))
      refine wpQuiet_nil ?_
      intro W1 hw'
      have hb_W1 := later_below hw'
      clear hw' _hl
      have bw1 := Box.below bw0 hb_W1 bw0.lt
      have br1 := Box.below br0 hb_W1 br0.lt
      have bn1 := Box.below bn0 hb_W1 bn0.lt
      have ho1 : Hid (W1.ownsRow (w.heap.size + 3) 33 2 vr (k + 1) (rngTo x m ways (k + 1))) := Lib.hid (own_later ho0.out hb_W1)
      have hb1 : Below w.heap.size w W1 := hbl.trans ((hbl0.trans (hb_W1.mono hzw)).mono hbl.size)
      clear bw br bn bw0 br0 bn0 bk k5 k6 n5 n6 n7 n8 hov ho0 hbl0 hb_W1 H1 H2 hks
      obtain ⟨n5, n6, n7, n8⟩ := bn1.two
      have hn1 := bn1.lt
      have ho2 : Hid (((W1.setCell ⟨w.heap.size + 1 + 1, 0, none⟩ (.int .i64 a1)).setCell ⟨w.heap.size + 1 + 1, 1, none⟩ (.int .i64 e2)).ownsRow (w.heap.size + 3) 33 2 vr (k + 1) (rngTo x m ways (k + 1))) :=
        Lib.hid (own_far (own_far ho1.out (by simp only []; omega) _) (by simp only []; omega) _)
      have hlk : Hid (k + 1 ≤ 7) := Lib.hid (by have := hwl.out; omega)
      go_wp2_with (refine wpList_append_own _ rfl (.tmp 48) (.tmp 50) 22 rfl (w.heap.size + 3) 33 i0 _ 2 16 Try.underlying22 hi' hy0 hy1 hy2 rfl (by decide) vr (k + 1) (rngTo x m ways (k + 1)) (by simp [Act.eval, Act.put]) (own_later ho2.out ((Below.refl _ _).alloc (Nat.le_refl _) _)) ⟨W1.heap.size, 0, none⟩ 1 1 [.int .i64 a1, .int .i64 e2] (by simp [Act.eval, Act.put]) rfl (cells_two_new _ _ _ _ _ (by simp)) (by simp [Value.oneCell']) (by have := hlk.out; simp [maxLen]; omega) (by have := hlk.out; omega) (by simp only [World.size_alloc, World.size_setCell]; omega) ?_; intro v' w' hown hgrow _; have HO := Lib.hid hown; have HGr := Lib.hid hgrow; clear hown hgrow)
      have hW2 : Below w.heap.size w (((W1.setCell ⟨w.heap.size + 1 + 1, 0, none⟩ (.int .i64 a1)).setCell ⟨w.heap.size + 1 + 1, 1, none⟩ (.int .i64 e2)).alloc (.cells #[.int .i64 a1, .int .i64 e2] 33)) := (by repeat (first | (with_reducible assumption) | (with_reducible exact Below.refl _ _) | ((with_reducible refine Below.alloc ?_ ?_ _); rotate_left; (focus (first | omega | (simp only [World.size_alloc, World.size_setCell, World.size_drew, World.heap_drewN]; first | done | omega)))) | ((with_reducible refine Below.setCell ?_ ?_ _); rotate_left; (focus (first | omega | (simp only [World.size_alloc, World.size_setCell, World.size_drew, World.heap_drewN]; first | done | omega)))) | (with_reducible refine below_drewN ?_ _) | (with_reducible refine Below.drew ?_) | ((with_reducible refine Below.trans ?_ (Below.mono (by assumption) ?_)); rotate_left; (focus (first | omega | (simp only [World.size_alloc, World.size_setCell, World.size_drew, World.heap_drewN]; first | done | omega))))))
      have ho3 : Hid ((((W1.setCell ⟨w.heap.size + 1 + 1, 0, none⟩ (.int .i64 a1)).setCell ⟨w.heap.size + 1 + 1, 1, none⟩ (.int .i64 e2)).alloc (.cells #[.int .i64 a1, .int .i64 e2] 33)).ownsRow (w.heap.size + 3) 33 2 vr (k + 1) (rngTo x m ways (k + 1))) :=
        Lib.hid (own_later ho2.out ((Below.refl _ _).alloc (Nat.le_refl _) _))
      have q1 : Box (((W1.setCell ⟨w.heap.size + 1 + 1, 0, none⟩ (.int .i64 a1)).setCell ⟨w.heap.size + 1 + 1, 1, none⟩ (.int .i64 e2)).alloc (.cells #[.int .i64 a1, .int .i64 e2] 33)) w.heap.size 25 #[.slice (some ⟨b0, o0, none⟩) x.bars.length cb, .slice (some ⟨b1, o1, none⟩) x.steps.length cs] := by (refine Box.of_f ?_; repeat (first | ((with_reducible refine BoxF.done (by with_reducible assumption) ?_); rfl) | ((with_reducible refine BoxF.new ?_ ?_); (focus (first | omega | (simp only [World.size_alloc, World.size_setCell, World.size_drew, World.heap_drewN]; first | done | omega))); rfl) | ((with_reducible refine BoxF.alloc ?_ ?_); (focus (first | omega | (simp only [World.size_alloc, World.size_setCell, World.size_drew, World.heap_drewN]; first | done | omega)))) | (with_reducible refine BoxF.set ?_) | ((with_reducible refine BoxF.far ?_ ?_); ((try simp only []); omega)) | (with_reducible refine BoxF.drewN ?_) | (with_reducible refine BoxF.drew ?_) | ((with_reducible refine BoxF.below (by with_reducible assumption) ?_ ?_); (focus (first | omega | (simp only [World.size_alloc, World.size_setCell, World.size_drew, World.heap_drewN]; first | done | omega))))))
      have q2 : Box (((W1.setCell ⟨w.heap.size + 1 + 1, 0, none⟩ (.int .i64 a1)).setCell ⟨w.heap.size + 1 + 1, 1, none⟩ (.int .i64 e2)).alloc (.cells #[.int .i64 a1, .int .i64 e2] 33)) (w.heap.size + 1) 42 #[.int .i64 m, .slice (some ⟨b2, o2, none⟩) ways.length cr] := by (refine Box.of_f ?_; repeat (first | ((with_reducible refine BoxF.done (by with_reducible assumption) ?_); rfl) | ((with_reducible refine BoxF.new ?_ ?_); (focus (first | omega | (simp only [World.size_alloc, World.size_setCell, World.size_drew, World.heap_drewN]; first | done | omega))); rfl) | ((with_reducible refine BoxF.alloc ?_ ?_); (focus (first | omega | (simp only [World.size_alloc, World.size_setCell, World.size_drew, World.heap_drewN]; first | done | omega)))) | (with_reducible refine BoxF.set ?_) | ((with_reducible refine BoxF.far ?_ ?_); ((try simp only []); omega)) | (with_reducible refine BoxF.drewN ?_) | (with_reducible refine BoxF.drew ?_) | ((with_reducible refine BoxF.below (by with_reducible assumption) ?_ ?_); (focus (first | omega | (simp only [World.size_alloc, World.size_setCell, World.size_drew, World.heap_drewN]; first | done | omega))))))
      have q3 : Box (((W1.setCell ⟨w.heap.size + 1 + 1, 0, none⟩ (.int .i64 a1)).setCell ⟨w.heap.size + 1 + 1, 1, none⟩ (.int .i64 e2)).alloc (.cells #[.int .i64 a1, .int .i64 e2] 33)) (w.heap.size + 2) 33 #[.int .i64 a1, .int .i64 e2] := by (refine Box.of_f ?_; repeat (first | ((with_reducible refine BoxF.done (by with_reducible assumption) ?_); rfl) | ((with_reducible refine BoxF.new ?_ ?_); (focus (first | omega | (simp only [World.size_alloc, World.size_setCell, World.size_drew, World.heap_drewN]; first | done | omega))); rfl) | ((with_reducible refine BoxF.alloc ?_ ?_); (focus (first | omega | (simp only [World.size_alloc, World.size_setCell, World.size_drew, World.heap_drewN]; first | done | omega)))) | (with_reducible refine BoxF.set ?_) | ((with_reducible refine BoxF.far ?_ ?_); ((try simp only []); omega)) | (with_reducible refine BoxF.drewN ?_) | (with_reducible refine BoxF.drew ?_) | ((with_reducible refine BoxF.below (by with_reducible assumption) ?_ ?_); (focus (first | omega | (simp only [World.size_alloc, World.size_setCell, World.size_drew, World.heap_drewN]; first | done | omega))))))
      go_roundw
      case rel =>
        refine ⟨k + 1, _, a1, e2, by omega, by go_num, rfl, HN, Lib.hid ?_, below_gb hW2 ho3.out HGr.out (by omega), box_keep_gb q1 ho3.out HGr.out (by omega), box_keep_gb q2 ho3.out HGr.out (by omega), box_keep_gb q3 ho3.out HGr.out (by omega)⟩
        rw [rngTo_succ, HN.out]
        exact HO.out
      case measure => simp [intOf]; omega
    · have hkn : k = x.steps.length := by have := hwl.out; omega
      subst hkn
      go_wp2_with fail
      go_ret
      refine ⟨_, rfl, own_rgs (base := w.heap.size + 3) (e := 33) ?_, hbl⟩
      rw [List.length_map, List.length_range]
      exact hov.out
end Go.Proofs.Ytigpefjeelgfdaa

/-
  Walks of layer 1's reference: Ranges, CheckHistory.
-/
namespace Go.Proofs.Ytigpefjeelgfdaa
open Go.RowKit

/-- The list, or nothing where there is an error. -/
def orNil {α : Type} (r : Int) (l : List α) : List α := if r = 0 then l else []
theorem res_rgs {l : List Rg} {r : Int} {v : Value} {w : World} (h : (Fact.res (Fact.rgs l) r).holds v w) : (Fact.first (Fact.rgs (orNil r l)) (.int .i64 r)).holds v w := by
  obtain ⟨u, hu, h1, h2⟩ := h
  refine ⟨u, hu, ?_⟩
  unfold orNil
  split
  · exact h1 ‹_›
  · rw [h2 ‹_›]; exact SL.nil _ _ _ _
theorem res_ints {l : List Int} {r : Int} {v : Value} {w : World} (h : (Fact.res (Fact.ints l) r).holds v w) : (Fact.first (Fact.ints (orNil r l)) (.int .i64 r)).holds v w := by
  obtain ⟨u, hu, h1, h2⟩ := h
  refine ⟨u, hu, ?_⟩
  unfold orNil
  split
  · exact h1 ‹_›
  · rw [h2 ‹_›]; exact SL.nil _ _ _ _
theorem CallsF.imp {f : FuncId} {args : Array Value} {w : World} {F G : Fact} (h : CallsF f args w F) (hi : ∀ v w', F.holds v w' → G.holds v w') : CallsF f args w G :=
  Calls.mono h fun _ _ ⟨v, he, hv, hb⟩ => ⟨v, he, hi v _ hv, hb⟩

def rngsOf (x : Works) (bar : Int) (ways : List Int) : List Rg := (List.range (x.steps.length + 1)).map (rngN x bar.toNat ways)
theorem heatRanges_first {Ab As Ar : Option Addr} {cb cs cr : Nat} {x : Works} {bar : Int} {ways : List Int} {B : Nat} {w : World} (h : In w B Ab As Ar cb cs cr x ways) :
    CallsF 23 #[.agg #[.slice Ab x.bars.length cb, .slice As x.steps.length cs], .agg #[.int .i64 bar, .slice Ar ways.length cr]] w
      (Fact.first (Fact.rgs (orNil (recErr x bar ways) (rngsOf x bar ways))) (.int .i64 (recErr x bar ways))) := by
  refine (heatRanges_read h).imp fun v w' hv => ?_
  have h1 := res_rgs hv
  by_cases g : recErr x bar ways = 0
  · have ok := recOk_iff.1 g
    obtain ⟨m, hbar⟩ := Int.eq_ofNat_of_zero_le ok.bar0
    subst hbar
    have e := endsL_iv ok
    have e2 : endsL (rowOf x ways (barP x (m : Int).toNat)) (x.steps.length + 1) = rngsOf x m ways := e
    rw [e2] at h1
    exact h1
  · unfold orNil at h1 ⊢
    rw [if_neg g] at h1 ⊢
    exact h1

set_option maxHeartbeats 1000000 in
theorem refRanges_first {Ab As Ar : Option Addr} {cb cs cr : Nat} {x : Works} {bar : Int} {ways : List Int} {B : Nat} {w : World} (h : In w B Ab As Ar cb cs cr x ways) :
    CallsF 24 #[.agg #[.slice Ab x.bars.length cb, .slice As x.steps.length cs], .agg #[.int .i64 bar, .slice Ar ways.length cr]] w
      (Fact.first (Fact.rgs (orNil (recErr x bar ways) (rngsOf x bar ways))) (.int .i64 (recErr x bar ways))) := by
  have hB := h.le
  have hre : ∀ W : World, Below w.heap.size w W → Calls Try.prog 63 #[.agg #[.slice Ab x.bars.length cb, .slice As x.steps.length cs], .agg #[.int .i64 bar, .slice Ar ways.length cr]] W fun e w' => e = .returned (.int .i64 (recErr x bar ways)) ∧ Below W.heap.size W w' :=
    fun W hW => refIsRecipe_any Ab As Ar cb cs cr x bar ways B W (h.on hW hB)
  have HRE := Lib.hid hre
  clear hre
  by_cases g : recErr x bar ways = 0
  · have ok := recOk_iff.1 g
    obtain ⟨m, hbar⟩ := Int.eq_ofNat_of_zero_le ok.bar0
    subst hbar
    have hrr : ∀ W : World, Below w.heap.size w W → CallsF 64 #[.agg #[.slice Ab x.bars.length cb, .slice As x.steps.length cs], .agg #[.int .i64 m, .slice Ar ways.length cr]] W (Fact.rgs (rngsOf x m ways)) :=
      fun W hW => refranges_ok Ab As Ar cb cs cr x m ways B W (h.on hW hB) ok
    have HRR := Lib.hid hrr
    have G := Lib.hid g
    clear hrr g ok
    go_enter Try.func24, Try.ntmps24
    go_wp2_with (first
      | (go_at_call 63; refine (HRE.out _ (by repeat (first | (with_reducible assumption) | (with_reducible exact Below.refl _ _) | ((with_reducible refine Below.alloc ?_ ?_ _); rotate_left; (focus (first | omega | (simp only [World.size_alloc, World.size_setCell, World.size_drew, World.heap_drewN]; first | done | omega)))) | ((with_reducible refine Below.setCell ?_ ?_ _); rotate_left; (focus (first | omega | (simp only [World.size_alloc, World.size_setCell, World.size_drew, World.heap_drewN]; first | done | omega)))) | (with_reducible refine below_drewN ?_ _) | (with_reducible refine Below.drew ?_) | ((with_reducible refine Below.trans ?_ (Below.mono (by assumption) ?_)); rotate_left; (focus (first | omega | (simp only [World.size_alloc, World.size_setCell, World.size_drew, World.heap_drewN]; first | done | omega))))))).mono ?_; rintro e w1 ⟨rfl, hb1⟩; rw [G.out]; obtain ⟨_hr1, _hr2⟩ := below_reads hb1; have _hz := Below.size hb1; (try simp only [World.size_alloc, World.size_setCell, World.size_drew, World.heap_drewN] at _hz); obtain ⟨_hr3, _hr4⟩ := below_reads (show Below w.heap.size w w1 from (by repeat (first | (with_reducible assumption) | (with_reducible exact Below.refl _ _) | ((with_reducible refine Below.alloc ?_ ?_ _); rotate_left; (focus (first | omega | (simp only [World.size_alloc, World.size_setCell, World.size_drew, World.heap_drewN]; first | done | omega)))) | ((with_reducible refine Below.setCell ?_ ?_ _); rotate_left; (focus (first | omega | (simp only [World.size_alloc, World.size_setCell, World.size_drew, World.heap_drewN]; first | done | omega)))) | (with_reducible refine below_drewN ?_ _) | (with_reducible refine Below.drew ?_) | ((with_reducible refine Below.trans ?_ (Below.mono (by assumption) ?_)); rotate_left; (focus (first | omega | (simp only [World.size_alloc, World.size_setCell, World.size_drew, World.heap_drewN]; first | done | omega))))))); have _q0 : w.heap.size < w1.heap.size := (by omega); have _q1 : w.heap.size + 1 < w1.heap.size := (by omega))
      | (go_at_call 64; refine Calls.mono (HRR.out _ (by repeat (first | (with_reducible assumption) | (with_reducible exact Below.refl _ _) | ((with_reducible refine Below.alloc ?_ ?_ _); rotate_left; (focus (first | omega | (simp only [World.size_alloc, World.size_setCell, World.size_drew, World.heap_drewN]; first | done | omega)))) | ((with_reducible refine Below.setCell ?_ ?_ _); rotate_left; (focus (first | omega | (simp only [World.size_alloc, World.size_setCell, World.size_drew, World.heap_drewN]; first | done | omega)))) | (with_reducible refine below_drewN ?_ _) | (with_reducible refine Below.drew ?_) | ((with_reducible refine Below.trans ?_ (Below.mono (by assumption) ?_)); rotate_left; (focus (first | omega | (simp only [World.size_alloc, World.size_setCell, World.size_drew, World.heap_drewN]; first | done | omega))))))) ?_; rintro e w2 ⟨v2, rfl, hv2, hb2⟩; have HV2 := Lib.hid hv2; clear hv2; obtain ⟨_hr1, _hr2⟩ := below_reads hb2; have _hz := Below.size hb2; (try simp only [World.size_alloc, World.size_setCell, World.size_drew, World.heap_drewN] at _hz); obtain ⟨_hr3, _hr4⟩ := below_reads (show Below w.heap.size w w2 from (by repeat (first | (with_reducible assumption) | (with_reducible exact Below.refl _ _) | ((with_reducible refine Below.alloc ?_ ?_ _); rotate_left; (focus (first | omega | (simp only [World.size_alloc, World.size_setCell, World.size_drew, World.heap_drewN]; first | done | omega)))) | ((with_reducible refine Below.setCell ?_ ?_ _); rotate_left; (focus (first | omega | (simp only [World.size_alloc, World.size_setCell, World.size_drew, World.heap_drewN]; first | done | omega)))) | (with_reducible refine below_drewN ?_ _) | (with_reducible refine Below.drew ?_) | ((with_reducible refine Below.trans ?_ (Below.mono (by assumption) ?_)); rotate_left; (focus (first | omega | (simp only [World.size_alloc, World.size_setCell, World.size_drew, World.heap_drewN]; first | done | omega))))))); have _q0 : w.heap.size < w2.heap.size := (by omega); have _q1 : w.heap.size + 1 < w2.heap.size := (by omega)))
    refine bodyPost_ret (v := .tuple #[v2, .int .i64 0]) (by simp [results, Try.results24, go_sem, *]) rfl ?_
    refine ⟨_, rfl, ⟨v2, by rw [G.out], ?_⟩, (by repeat (first | (with_reducible assumption) | (with_reducible exact Below.refl _ _) | ((with_reducible refine Below.alloc ?_ ?_ _); rotate_left; (focus (first | omega | (simp only [World.size_alloc, World.size_setCell, World.size_drew, World.heap_drewN]; first | done | omega)))) | ((with_reducible refine Below.setCell ?_ ?_ _); rotate_left; (focus (first | omega | (simp only [World.size_alloc, World.size_setCell, World.size_drew, World.heap_drewN]; first | done | omega)))) | (with_reducible refine below_drewN ?_ _) | (with_reducible refine Below.drew ?_) | ((with_reducible refine Below.trans ?_ (Below.mono (by assumption) ?_)); rotate_left; (focus (first | omega | (simp only [World.size_alloc, World.size_setCell, World.size_drew, World.heap_drewN]; first | done | omega))))))⟩
    rw [G.out]
    exact HV2.out
  · have g' : (recErr x bar ways != 0) = true := by simp [g]
    have G := Lib.hid g
    clear g
    go_enter Try.func24, Try.ntmps24
    go_wp2_with fail
    refine (HRE.out _ (by repeat (first | (with_reducible assumption) | (with_reducible exact Below.refl _ _) | ((with_reducible refine Below.alloc ?_ ?_ _); rotate_left; (focus (first | omega | (simp only [World.size_alloc, World.size_setCell, World.size_drew, World.heap_drewN]; first | done | omega)))) | ((with_reducible refine Below.setCell ?_ ?_ _); rotate_left; (focus (first | omega | (simp only [World.size_alloc, World.size_setCell, World.size_drew, World.heap_drewN]; first | done | omega)))) | (with_reducible refine below_drewN ?_ _) | (with_reducible refine Below.drew ?_) | ((with_reducible refine Below.trans ?_ (Below.mono (by assumption) ?_)); rotate_left; (focus (first | omega | (simp only [World.size_alloc, World.size_setCell, World.size_drew, World.heap_drewN]; first | done | omega))))))).mono ?_
    rintro e w1 ⟨rfl, hb1⟩
    obtain ⟨_hr1, _hr2⟩ := below_reads hb1; have _hz := Below.size hb1; (try simp only [World.size_alloc, World.size_setCell, World.size_drew, World.heap_drewN] at _hz); obtain ⟨_hr3, _hr4⟩ := below_reads (show Below w.heap.size w w1 from (by repeat (first | (with_reducible assumption) | (with_reducible exact Below.refl _ _) | ((with_reducible refine Below.alloc ?_ ?_ _); rotate_left; (focus (first | omega | (simp only [World.size_alloc, World.size_setCell, World.size_drew, World.heap_drewN]; first | done | omega)))) | ((with_reducible refine Below.setCell ?_ ?_ _); rotate_left; (focus (first | omega | (simp only [World.size_alloc, World.size_setCell, World.size_drew, World.heap_drewN]; first | done | omega)))) | (with_reducible refine below_drewN ?_ _) | (with_reducible refine Below.drew ?_) | ((with_reducible refine Below.trans ?_ (Below.mono (by assumption) ?_)); rotate_left; (focus (first | omega | (simp only [World.size_alloc, World.size_setCell, World.size_drew, World.heap_drewN]; first | done | omega))))))); have _q0 : w.heap.size < w1.heap.size := (by omega); have _q1 : w.heap.size + 1 < w1.heap.size := (by omega)
    go_wp2_with fail
    refine (HRE.out _ (by repeat (first | (with_reducible assumption) | (with_reducible exact Below.refl _ _) | ((with_reducible refine Below.alloc ?_ ?_ _); rotate_left; (focus (first | omega | (simp only [World.size_alloc, World.size_setCell, World.size_drew, World.heap_drewN]; first | done | omega)))) | ((with_reducible refine Below.setCell ?_ ?_ _); rotate_left; (focus (first | omega | (simp only [World.size_alloc, World.size_setCell, World.size_drew, World.heap_drewN]; first | done | omega)))) | (with_reducible refine below_drewN ?_ _) | (with_reducible refine Below.drew ?_) | ((with_reducible refine Below.trans ?_ (Below.mono (by assumption) ?_)); rotate_left; (focus (first | omega | (simp only [World.size_alloc, World.size_setCell, World.size_drew, World.heap_drewN]; first | done | omega))))))).mono ?_
    rintro e w2 ⟨rfl, hb2⟩
    have _q0 : w.heap.size < w2.heap.size := by have := hb2.size; omega
    have _q1 : w.heap.size + 1 < w2.heap.size := by have := hb2.size; omega
    go_wp2_with fail
    refine bodyPost_ret (v := .tuple #[.slice none 0 0, .int .i64 (recErr x bar ways)]) (by simp [results, Try.results24, go_sem, *]) rfl ?_
    refine ⟨_, rfl, ⟨_, rfl, ?_⟩, (by repeat (first | (with_reducible assumption) | (with_reducible exact Below.refl _ _) | ((with_reducible refine Below.alloc ?_ ?_ _); rotate_left; (focus (first | omega | (simp only [World.size_alloc, World.size_setCell, World.size_drew, World.heap_drewN]; first | done | omega)))) | ((with_reducible refine Below.setCell ?_ ?_ _); rotate_left; (focus (first | omega | (simp only [World.size_alloc, World.size_setCell, World.size_drew, World.heap_drewN]; first | done | omega)))) | (with_reducible refine below_drewN ?_ _) | (with_reducible refine Below.drew ?_) | ((with_reducible refine Below.trans ?_ (Below.mono (by assumption) ?_)); rotate_left; (focus (first | omega | (simp only [World.size_alloc, World.size_setCell, World.size_drew, World.heap_drewN]; first | done | omega))))))⟩
    unfold orNil
    rw [if_neg G.out]
    exact SL.nil _ _ _ _

set_option maxHeartbeats 1000000 in
theorem refCheckHistory_any (Ab As Ar Ah : Option Addr) (cb cs cr ch : Nat) (x : Works) (bar : Int) (ways hist : List Int) (B : Nat) (w : World) (h : In w B Ab As Ar cb cs cr x ways)
    (hh : IntsA .i64 w B Ah hist) (ch1 : hist.length ≤ ch) (ch2 : ch ≤ 9223372036854775807) :
    Calls Try.prog 27 #[.agg #[.slice Ab x.bars.length cb, .slice As x.steps.length cs], .agg #[.int .i64 bar, .slice Ar ways.length cr], .slice Ah hist.length ch] w
      fun e w' => e = .returned (.int .i64 (histErr x bar ways hist)) ∧ Below w.heap.size w w' := by
  have hB := h.le
  have hre : ∀ W : World, Below w.heap.size w W → Calls Try.prog 63 #[.agg #[.slice Ab x.bars.length cb, .slice As x.steps.length cs], .agg #[.int .i64 bar, .slice Ar ways.length cr]] W fun e w' => e = .returned (.int .i64 (recErr x bar ways)) ∧ Below W.heap.size W w' :=
    fun W hW => refIsRecipe_any Ab As Ar cb cs cr x bar ways B W (h.on hW hB)
  have HRE := Lib.hid hre
  clear hre
  by_cases g : recErr x bar ways = 0
  · by_cases g2 : hist.length = x.steps.length + 1
    · exact refCheckHistory_ok Ab As Ar Ah cb cs cr ch x bar ways hist B w h hh ch1 ch2 (Lib.hid g) (Lib.hid g2)
    · have R : Hid (histErr x bar ways hist = 15) := histErr_len g g2
      have hs6 := steps_few (recOk_iff.1 g).works
      have G := Lib.hid g
      have hs : IntKind.i64.wrap ((x.steps.length : Int) + 1) = (x.steps.length : Int) + 1 := IntWalk.i64_in _ (by omega)
      have g3 : ((hist.length : Int) != (x.steps.length : Int) + 1) = true := by simp; omega
      clear g g2
      go_enter Try.func27, Try.ntmps27
      go_wp2_with (go_at_call 63; refine (HRE.out _ (by repeat (first | (with_reducible assumption) | (with_reducible exact Below.refl _ _) | ((with_reducible refine Below.alloc ?_ ?_ _); rotate_left; (focus (first | omega | (simp only [World.size_alloc, World.size_setCell, World.size_drew, World.heap_drewN]; first | done | omega)))) | ((with_reducible refine Below.setCell ?_ ?_ _); rotate_left; (focus (first | omega | (simp only [World.size_alloc, World.size_setCell, World.size_drew, World.heap_drewN]; first | done | omega)))) | (with_reducible refine below_drewN ?_ _) | (with_reducible refine Below.drew ?_) | ((with_reducible refine Below.trans ?_ (Below.mono (by assumption) ?_)); rotate_left; (focus (first | omega | (simp only [World.size_alloc, World.size_setCell, World.size_drew, World.heap_drewN]; first | done | omega))))))).mono ?_; rintro e w1 ⟨rfl, hb1⟩; rw [G.out]; obtain ⟨_hr1, _hr2⟩ := below_reads hb1; have _hz := Below.size hb1; (try simp only [World.size_alloc, World.size_setCell, World.size_drew, World.heap_drewN] at _hz); obtain ⟨_hr3, _hr4⟩ := below_reads (show Below w.heap.size w w1 from (by repeat (first | (with_reducible assumption) | (with_reducible exact Below.refl _ _) | ((with_reducible refine Below.alloc ?_ ?_ _); rotate_left; (focus (first | omega | (simp only [World.size_alloc, World.size_setCell, World.size_drew, World.heap_drewN]; first | done | omega)))) | ((with_reducible refine Below.setCell ?_ ?_ _); rotate_left; (focus (first | omega | (simp only [World.size_alloc, World.size_setCell, World.size_drew, World.heap_drewN]; first | done | omega)))) | (with_reducible refine below_drewN ?_ _) | (with_reducible refine Below.drew ?_) | ((with_reducible refine Below.trans ?_ (Below.mono (by assumption) ?_)); rotate_left; (focus (first | omega | (simp only [World.size_alloc, World.size_setCell, World.size_drew, World.heap_drewN]; first | done | omega))))))); have _q0 : w.heap.size < w1.heap.size := (by omega); have _q1 : w.heap.size + 1 < w1.heap.size := (by omega))
      go_ret
      exact ⟨ret_int R.out.symm, (by repeat (first | (with_reducible assumption) | (with_reducible exact Below.refl _ _) | ((with_reducible refine Below.alloc ?_ ?_ _); rotate_left; (focus (first | omega | (simp only [World.size_alloc, World.size_setCell, World.size_drew, World.heap_drewN]; first | done | omega)))) | ((with_reducible refine Below.setCell ?_ ?_ _); rotate_left; (focus (first | omega | (simp only [World.size_alloc, World.size_setCell, World.size_drew, World.heap_drewN]; first | done | omega)))) | (with_reducible refine below_drewN ?_ _) | (with_reducible refine Below.drew ?_) | ((with_reducible refine Below.trans ?_ (Below.mono (by assumption) ?_)); rotate_left; (focus (first | omega | (simp only [World.size_alloc, World.size_setCell, World.size_drew, World.heap_drewN]; first | done | omega))))))⟩
  · have R : Hid (histErr x bar ways hist = recErr x bar ways) := histErr_rec g
    have g' : (recErr x bar ways != 0) = true := by simp [g]
    clear g
    go_enter Try.func27, Try.ntmps27
    go_wp2_with fail
    refine (HRE.out _ (by repeat (first | (with_reducible assumption) | (with_reducible exact Below.refl _ _) | ((with_reducible refine Below.alloc ?_ ?_ _); rotate_left; (focus (first | omega | (simp only [World.size_alloc, World.size_setCell, World.size_drew, World.heap_drewN]; first | done | omega)))) | ((with_reducible refine Below.setCell ?_ ?_ _); rotate_left; (focus (first | omega | (simp only [World.size_alloc, World.size_setCell, World.size_drew, World.heap_drewN]; first | done | omega)))) | (with_reducible refine below_drewN ?_ _) | (with_reducible refine Below.drew ?_) | ((with_reducible refine Below.trans ?_ (Below.mono (by assumption) ?_)); rotate_left; (focus (first | omega | (simp only [World.size_alloc, World.size_setCell, World.size_drew, World.heap_drewN]; first | done | omega))))))).mono ?_
    rintro e w1 ⟨rfl, hb1⟩
    obtain ⟨_hr1, _hr2⟩ := below_reads hb1; have _hz := Below.size hb1; (try simp only [World.size_alloc, World.size_setCell, World.size_drew, World.heap_drewN] at _hz); obtain ⟨_hr3, _hr4⟩ := below_reads (show Below w.heap.size w w1 from (by repeat (first | (with_reducible assumption) | (with_reducible exact Below.refl _ _) | ((with_reducible refine Below.alloc ?_ ?_ _); rotate_left; (focus (first | omega | (simp only [World.size_alloc, World.size_setCell, World.size_drew, World.heap_drewN]; first | done | omega)))) | ((with_reducible refine Below.setCell ?_ ?_ _); rotate_left; (focus (first | omega | (simp only [World.size_alloc, World.size_setCell, World.size_drew, World.heap_drewN]; first | done | omega)))) | (with_reducible refine below_drewN ?_ _) | (with_reducible refine Below.drew ?_) | ((with_reducible refine Below.trans ?_ (Below.mono (by assumption) ?_)); rotate_left; (focus (first | omega | (simp only [World.size_alloc, World.size_setCell, World.size_drew, World.heap_drewN]; first | done | omega))))))); have _q0 : w.heap.size < w1.heap.size := (by omega); have _q1 : w.heap.size + 1 < w1.heap.size := (by omega)
    go_wp2_with fail
    refine (HRE.out _ (by repeat (first | (with_reducible assumption) | (with_reducible exact Below.refl _ _) | ((with_reducible refine Below.alloc ?_ ?_ _); rotate_left; (focus (first | omega | (simp only [World.size_alloc, World.size_setCell, World.size_drew, World.heap_drewN]; first | done | omega)))) | ((with_reducible refine Below.setCell ?_ ?_ _); rotate_left; (focus (first | omega | (simp only [World.size_alloc, World.size_setCell, World.size_drew, World.heap_drewN]; first | done | omega)))) | (with_reducible refine below_drewN ?_ _) | (with_reducible refine Below.drew ?_) | ((with_reducible refine Below.trans ?_ (Below.mono (by assumption) ?_)); rotate_left; (focus (first | omega | (simp only [World.size_alloc, World.size_setCell, World.size_drew, World.heap_drewN]; first | done | omega))))))).mono ?_
    rintro e w2 ⟨rfl, hb2⟩
    have _q0 : w.heap.size < w2.heap.size := by have := hb2.size; omega
    have _q1 : w.heap.size + 1 < w2.heap.size := by have := hb2.size; omega
    go_wp2_with fail
    go_ret
    exact ⟨ret_int R.out.symm, (by repeat (first | (with_reducible assumption) | (with_reducible exact Below.refl _ _) | ((with_reducible refine Below.alloc ?_ ?_ _); rotate_left; (focus (first | omega | (simp only [World.size_alloc, World.size_setCell, World.size_drew, World.heap_drewN]; first | done | omega)))) | ((with_reducible refine Below.setCell ?_ ?_ _); rotate_left; (focus (first | omega | (simp only [World.size_alloc, World.size_setCell, World.size_drew, World.heap_drewN]; first | done | omega)))) | (with_reducible refine below_drewN ?_ _) | (with_reducible refine Below.drew ?_) | ((with_reducible refine Below.trans ?_ (Below.mono (by assumption) ?_)); rotate_left; (focus (first | omega | (simp only [World.size_alloc, World.size_setCell, World.size_drew, World.heap_drewN]; first | done | omega))))))⟩
end Go.Proofs.Ytigpefjeelgfdaa

/-
  Walks of layer 1's statements: HeatRanges.
-/
namespace Go.Proofs.Ytigpefjeelgfdaa
open Go.RowKit

set_option maxRecDepth 100000 in
set_option maxHeartbeats 4000000 in
theorem rangesLaw_any (Ab As Ar Ah : Option Addr) (cb cs cr ch : Nat) (x : Works) (bar : Int) (ways hist : List Int) (B : Nat) (w : World) (h : In w B Ab As Ar cb cs cr x ways) (hh : IntsA .i64 w B Ah hist) (ch1 : hist.length ≤ ch) (ch2 : ch ≤ 9223372036854775807) :
    Calls Try.prog 4 #[.agg #[.slice Ab x.bars.length cb, .slice As x.steps.length cs], .agg #[.int .i64 bar, .slice Ar ways.length cr], .slice Ah hist.length ch] w fun e w' => e = .returned (.bool true) ∧ Below w.heap.size w w' := by
  have hB := h.le
  have hgr : ∀ W : World, Below w.heap.size w W → Calls Try.prog 14 #[.agg #[.slice Ab x.bars.length cb, .slice As x.steps.length cs]] W fun e w' => e = .returned (.bool (greatB x)) ∧ Below W.heap.size W w' :=
    fun W hW => great_any Ab As cb cs x B W (rgs_on h.bars hW hB) (steps_on h.steps hW hB) h.cs1 h.cs2 h.cb1 h.cb2 (Nat.le_trans hB hW.size)
  have HG := Lib.hid hgr
  have hr1 : ∀ W : World, Below w.heap.size w W → CallsF 23 #[.agg #[.slice Ab x.bars.length cb, .slice As x.steps.length cs], .agg #[.int .i64 bar, .slice Ar ways.length cr]] W (Fact.first (Fact.rgs (orNil (recErr x bar ways) (rngsOf x bar ways))) (.int .i64 (recErr x bar ways))) := fun W hW => heatRanges_first (h.on hW hB)
  have HR1 := Lib.hid hr1
  have hr2 : ∀ W : World, Below w.heap.size w W → CallsF 24 #[.agg #[.slice Ab x.bars.length cb, .slice As x.steps.length cs], .agg #[.int .i64 bar, .slice Ar ways.length cr]] W (Fact.first (Fact.rgs (orNil (recErr x bar ways) (rngsOf x bar ways))) (.int .i64 (recErr x bar ways))) := fun W hW => refRanges_first (h.on hW hB)
  have HR2 := Lib.hid hr2
  have hc1 : ∀ W : World, Below w.heap.size w W → Calls Try.prog 26 #[.agg #[.slice Ab x.bars.length cb, .slice As x.steps.length cs], .agg #[.int .i64 bar, .slice Ar ways.length cr], .slice Ah hist.length ch] W fun e w' => e = .returned (.int .i64 (histErr x bar ways hist)) ∧ Below W.heap.size W w' :=
    fun W hW => heatCheckHistory_any Ab As Ar Ah cb cs cr ch x bar ways hist B W (h.on hW hB) (ints_on hh hW hB) ch1 ch2
  have HC1 := Lib.hid hc1
  have hc2 : ∀ W : World, Below w.heap.size w W → Calls Try.prog 27 #[.agg #[.slice Ab x.bars.length cb, .slice As x.steps.length cs], .agg #[.int .i64 bar, .slice Ar ways.length cr], .slice Ah hist.length ch] W fun e w' => e = .returned (.int .i64 (histErr x bar ways hist)) ∧ Below W.heap.size W w' :=
    fun W hW => refCheckHistory_any Ab As Ar Ah cb cs cr ch x bar ways hist B W (h.on hW hB) (ints_on hh hW hB) ch1 ch2
  have HC2 := Lib.hid hc2
  clear hgr hr1 hr2 hc1 hc2 h hh
  generalize x.bars.length = nb at *
  generalize x.steps.length = ns at *
  generalize hkl : ways.length = nr at *
  clear hkl
  generalize hkl : hist.length = nh at *
  clear hkl
  generalize orNil (recErr x bar ways) (rngsOf x bar ways) = L at *
  generalize recErr x bar ways = r at *
  generalize histErr x bar ways hist = q at *
  cases hg : greatB x
  · have G := Lib.hid hg
    clear hg
    by_cases n1 : 12 < nr
    · go_enter Try.func4, Try.ntmps4
      go_wp2_with (first
        | (go_at_call 14; refine (HG.out _ (by repeat (first | (with_reducible assumption) | (with_reducible exact Below.refl _ _) | ((with_reducible refine Below.alloc ?_ ?_ _); rotate_left; (focus (first | omega | (simp only [World.size_alloc, World.size_setCell, World.size_drew, World.heap_drewN]; first | done | omega)))) | ((with_reducible refine Below.setCell ?_ ?_ _); rotate_left; (focus (first | omega | (simp only [World.size_alloc, World.size_setCell, World.size_drew, World.heap_drewN]; first | done | omega)))) | (with_reducible refine below_drewN ?_ _) | (with_reducible refine Below.drew ?_) | ((with_reducible refine Below.trans ?_ (Below.mono (by assumption) ?_)); rotate_left; (focus (first | omega | (simp only [World.size_alloc, World.size_setCell, World.size_drew, World.heap_drewN]; first | done | omega))))))).mono ?_; rintro e w1 ⟨rfl, hb1⟩; rw [G.out]; obtain ⟨_hr1, _hr2⟩ := below_reads hb1; have _hz := Below.size hb1; (try simp only [World.size_alloc, World.size_setCell, World.size_drew, World.heap_drewN] at _hz); obtain ⟨_hr3, _hr4⟩ := below_reads (show Below w.heap.size w w1 from (by repeat (first | (with_reducible assumption) | (with_reducible exact Below.refl _ _) | ((with_reducible refine Below.alloc ?_ ?_ _); rotate_left; (focus (first | omega | (simp only [World.size_alloc, World.size_setCell, World.size_drew, World.heap_drewN]; first | done | omega)))) | ((with_reducible refine Below.setCell ?_ ?_ _); rotate_left; (focus (first | omega | (simp only [World.size_alloc, World.size_setCell, World.size_drew, World.heap_drewN]; first | done | omega)))) | (with_reducible refine below_drewN ?_ _) | (with_reducible refine Below.drew ?_) | ((with_reducible refine Below.trans ?_ (Below.mono (by assumption) ?_)); rotate_left; (focus (first | omega | (simp only [World.size_alloc, World.size_setCell, World.size_drew, World.heap_drewN]; first | done | omega))))))); have _q0 : w.heap.size < w1.heap.size := (by omega); have _q1 : w.heap.size + 1 < w1.heap.size := (by omega))
        | (go_at_call 16; refine (works_any _).mono ?_; rintro e w3 ⟨rfl, hb3⟩; obtain ⟨_hr1, _hr2⟩ := below_reads hb3; have _hz := Below.size hb3; (try simp only [World.size_alloc, World.size_setCell, World.size_drew, World.heap_drewN] at _hz); obtain ⟨_hr3, _hr4⟩ := below_reads (show Below w.heap.size w w3 from (by repeat (first | (with_reducible assumption) | (with_reducible exact Below.refl _ _) | ((with_reducible refine Below.alloc ?_ ?_ _); rotate_left; (focus (first | omega | (simp only [World.size_alloc, World.size_setCell, World.size_drew, World.heap_drewN]; first | done | omega)))) | ((with_reducible refine Below.setCell ?_ ?_ _); rotate_left; (focus (first | omega | (simp only [World.size_alloc, World.size_setCell, World.size_drew, World.heap_drewN]; first | done | omega)))) | (with_reducible refine below_drewN ?_ _) | (with_reducible refine Below.drew ?_) | ((with_reducible refine Below.trans ?_ (Below.mono (by assumption) ?_)); rotate_left; (focus (first | omega | (simp only [World.size_alloc, World.size_setCell, World.size_drew, World.heap_drewN]; first | done | omega))))))); have _q0 : w.heap.size < w3.heap.size := (by omega); have _q1 : w.heap.size + 1 < w3.heap.size := (by omega)))
      go_ret
      exact ⟨rfl, (by repeat (first | (with_reducible assumption) | (with_reducible exact Below.refl _ _) | ((with_reducible refine Below.alloc ?_ ?_ _); rotate_left; (focus (first | omega | (simp only [World.size_alloc, World.size_setCell, World.size_drew, World.heap_drewN]; first | done | omega)))) | ((with_reducible refine Below.setCell ?_ ?_ _); rotate_left; (focus (first | omega | (simp only [World.size_alloc, World.size_setCell, World.size_drew, World.heap_drewN]; first | done | omega)))) | (with_reducible refine below_drewN ?_ _) | (with_reducible refine Below.drew ?_) | ((with_reducible refine Below.trans ?_ (Below.mono (by assumption) ?_)); rotate_left; (focus (first | omega | (simp only [World.size_alloc, World.size_setCell, World.size_drew, World.heap_drewN]; first | done | omega))))))⟩
    by_cases n2 : 12 < nh
    · go_enter Try.func4, Try.ntmps4
      go_wp2_with (first
        | (go_at_call 14; refine (HG.out _ (by repeat (first | (with_reducible assumption) | (with_reducible exact Below.refl _ _) | ((with_reducible refine Below.alloc ?_ ?_ _); rotate_left; (focus (first | omega | (simp only [World.size_alloc, World.size_setCell, World.size_drew, World.heap_drewN]; first | done | omega)))) | ((with_reducible refine Below.setCell ?_ ?_ _); rotate_left; (focus (first | omega | (simp only [World.size_alloc, World.size_setCell, World.size_drew, World.heap_drewN]; first | done | omega)))) | (with_reducible refine below_drewN ?_ _) | (with_reducible refine Below.drew ?_) | ((with_reducible refine Below.trans ?_ (Below.mono (by assumption) ?_)); rotate_left; (focus (first | omega | (simp only [World.size_alloc, World.size_setCell, World.size_drew, World.heap_drewN]; first | done | omega))))))).mono ?_; rintro e w1 ⟨rfl, hb1⟩; rw [G.out]; obtain ⟨_hr1, _hr2⟩ := below_reads hb1; have _hz := Below.size hb1; (try simp only [World.size_alloc, World.size_setCell, World.size_drew, World.heap_drewN] at _hz); obtain ⟨_hr3, _hr4⟩ := below_reads (show Below w.heap.size w w1 from (by repeat (first | (with_reducible assumption) | (with_reducible exact Below.refl _ _) | ((with_reducible refine Below.alloc ?_ ?_ _); rotate_left; (focus (first | omega | (simp only [World.size_alloc, World.size_setCell, World.size_drew, World.heap_drewN]; first | done | omega)))) | ((with_reducible refine Below.setCell ?_ ?_ _); rotate_left; (focus (first | omega | (simp only [World.size_alloc, World.size_setCell, World.size_drew, World.heap_drewN]; first | done | omega)))) | (with_reducible refine below_drewN ?_ _) | (with_reducible refine Below.drew ?_) | ((with_reducible refine Below.trans ?_ (Below.mono (by assumption) ?_)); rotate_left; (focus (first | omega | (simp only [World.size_alloc, World.size_setCell, World.size_drew, World.heap_drewN]; first | done | omega))))))); have _q0 : w.heap.size < w1.heap.size := (by omega); have _q1 : w.heap.size + 1 < w1.heap.size := (by omega))
        | (go_at_call 16; refine (works_any _).mono ?_; rintro e w3 ⟨rfl, hb3⟩; obtain ⟨_hr1, _hr2⟩ := below_reads hb3; have _hz := Below.size hb3; (try simp only [World.size_alloc, World.size_setCell, World.size_drew, World.heap_drewN] at _hz); obtain ⟨_hr3, _hr4⟩ := below_reads (show Below w.heap.size w w3 from (by repeat (first | (with_reducible assumption) | (with_reducible exact Below.refl _ _) | ((with_reducible refine Below.alloc ?_ ?_ _); rotate_left; (focus (first | omega | (simp only [World.size_alloc, World.size_setCell, World.size_drew, World.heap_drewN]; first | done | omega)))) | ((with_reducible refine Below.setCell ?_ ?_ _); rotate_left; (focus (first | omega | (simp only [World.size_alloc, World.size_setCell, World.size_drew, World.heap_drewN]; first | done | omega)))) | (with_reducible refine below_drewN ?_ _) | (with_reducible refine Below.drew ?_) | ((with_reducible refine Below.trans ?_ (Below.mono (by assumption) ?_)); rotate_left; (focus (first | omega | (simp only [World.size_alloc, World.size_setCell, World.size_drew, World.heap_drewN]; first | done | omega))))))); have _q0 : w.heap.size < w3.heap.size := (by omega); have _q1 : w.heap.size + 1 < w3.heap.size := (by omega)))
      go_ret
      exact ⟨rfl, (by repeat (first | (with_reducible assumption) | (with_reducible exact Below.refl _ _) | ((with_reducible refine Below.alloc ?_ ?_ _); rotate_left; (focus (first | omega | (simp only [World.size_alloc, World.size_setCell, World.size_drew, World.heap_drewN]; first | done | omega)))) | ((with_reducible refine Below.setCell ?_ ?_ _); rotate_left; (focus (first | omega | (simp only [World.size_alloc, World.size_setCell, World.size_drew, World.heap_drewN]; first | done | omega)))) | (with_reducible refine below_drewN ?_ _) | (with_reducible refine Below.drew ?_) | ((with_reducible refine Below.trans ?_ (Below.mono (by assumption) ?_)); rotate_left; (focus (first | omega | (simp only [World.size_alloc, World.size_setCell, World.size_drew, World.heap_drewN]; first | done | omega))))))⟩
    go_enter Try.func4, Try.ntmps4
    go_wp2_with (first
        | (go_at_call 14; refine (HG.out _ (by repeat (first | (with_reducible assumption) | (with_reducible exact Below.refl _ _) | ((with_reducible refine Below.alloc ?_ ?_ _); rotate_left; (focus (first | omega | (simp only [World.size_alloc, World.size_setCell, World.size_drew, World.heap_drewN]; first | done | omega)))) | ((with_reducible refine Below.setCell ?_ ?_ _); rotate_left; (focus (first | omega | (simp only [World.size_alloc, World.size_setCell, World.size_drew, World.heap_drewN]; first | done | omega)))) | (with_reducible refine below_drewN ?_ _) | (with_reducible refine Below.drew ?_) | ((with_reducible refine Below.trans ?_ (Below.mono (by assumption) ?_)); rotate_left; (focus (first | omega | (simp only [World.size_alloc, World.size_setCell, World.size_drew, World.heap_drewN]; first | done | omega))))))).mono ?_; rintro e w1 ⟨rfl, hb1⟩; rw [G.out]; obtain ⟨_hr1, _hr2⟩ := below_reads hb1; have _hz := Below.size hb1; (try simp only [World.size_alloc, World.size_setCell, World.size_drew, World.heap_drewN] at _hz); obtain ⟨_hr3, _hr4⟩ := below_reads (show Below w.heap.size w w1 from (by repeat (first | (with_reducible assumption) | (with_reducible exact Below.refl _ _) | ((with_reducible refine Below.alloc ?_ ?_ _); rotate_left; (focus (first | omega | (simp only [World.size_alloc, World.size_setCell, World.size_drew, World.heap_drewN]; first | done | omega)))) | ((with_reducible refine Below.setCell ?_ ?_ _); rotate_left; (focus (first | omega | (simp only [World.size_alloc, World.size_setCell, World.size_drew, World.heap_drewN]; first | done | omega)))) | (with_reducible refine below_drewN ?_ _) | (with_reducible refine Below.drew ?_) | ((with_reducible refine Below.trans ?_ (Below.mono (by assumption) ?_)); rotate_left; (focus (first | omega | (simp only [World.size_alloc, World.size_setCell, World.size_drew, World.heap_drewN]; first | done | omega))))))); have _q0 : w.heap.size < w1.heap.size := (by omega); have _q1 : w.heap.size + 1 < w1.heap.size := (by omega))
        | (go_at_call 23; refine Calls.mono (HR1.out _ (by repeat (first | (with_reducible assumption) | (with_reducible exact Below.refl _ _) | ((with_reducible refine Below.alloc ?_ ?_ _); rotate_left; (focus (first | omega | (simp only [World.size_alloc, World.size_setCell, World.size_drew, World.heap_drewN]; first | done | omega)))) | ((with_reducible refine Below.setCell ?_ ?_ _); rotate_left; (focus (first | omega | (simp only [World.size_alloc, World.size_setCell, World.size_drew, World.heap_drewN]; first | done | omega)))) | (with_reducible refine below_drewN ?_ _) | (with_reducible refine Below.drew ?_) | ((with_reducible refine Below.trans ?_ (Below.mono (by assumption) ?_)); rotate_left; (focus (first | omega | (simp only [World.size_alloc, World.size_setCell, World.size_drew, World.heap_drewN]; first | done | omega))))))) ?_; rintro e w3 ⟨_, rfl, ⟨r7, rfl, p7⟩, hb3⟩; have P7 := Lib.hid p7; clear p7; obtain ⟨_hr1, _hr2⟩ := below_reads hb3; have _hz := Below.size hb3; (try simp only [World.size_alloc, World.size_setCell, World.size_drew, World.heap_drewN] at _hz); obtain ⟨_hr3, _hr4⟩ := below_reads (show Below w.heap.size w w3 from (by repeat (first | (with_reducible assumption) | (with_reducible exact Below.refl _ _) | ((with_reducible refine Below.alloc ?_ ?_ _); rotate_left; (focus (first | omega | (simp only [World.size_alloc, World.size_setCell, World.size_drew, World.heap_drewN]; first | done | omega)))) | ((with_reducible refine Below.setCell ?_ ?_ _); rotate_left; (focus (first | omega | (simp only [World.size_alloc, World.size_setCell, World.size_drew, World.heap_drewN]; first | done | omega)))) | (with_reducible refine below_drewN ?_ _) | (with_reducible refine Below.drew ?_) | ((with_reducible refine Below.trans ?_ (Below.mono (by assumption) ?_)); rotate_left; (focus (first | omega | (simp only [World.size_alloc, World.size_setCell, World.size_drew, World.heap_drewN]; first | done | omega))))))); have _q0 : w.heap.size < w3.heap.size := (by omega); have _q1 : w.heap.size + 1 < w3.heap.size := (by omega))
        | (go_at_call 24; refine Calls.mono (HR2.out _ (by repeat (first | (with_reducible assumption) | (with_reducible exact Below.refl _ _) | ((with_reducible refine Below.alloc ?_ ?_ _); rotate_left; (focus (first | omega | (simp only [World.size_alloc, World.size_setCell, World.size_drew, World.heap_drewN]; first | done | omega)))) | ((with_reducible refine Below.setCell ?_ ?_ _); rotate_left; (focus (first | omega | (simp only [World.size_alloc, World.size_setCell, World.size_drew, World.heap_drewN]; first | done | omega)))) | (with_reducible refine below_drewN ?_ _) | (with_reducible refine Below.drew ?_) | ((with_reducible refine Below.trans ?_ (Below.mono (by assumption) ?_)); rotate_left; (focus (first | omega | (simp only [World.size_alloc, World.size_setCell, World.size_drew, World.heap_drewN]; first | done | omega))))))) ?_; rintro e W ⟨_, rfl, ⟨r9, rfl, p9⟩, hb4⟩; have P9 := Lib.hid p9; clear p9; obtain ⟨_hr1, _hr2⟩ := below_reads hb4; have _hz := Below.size hb4; (try simp only [World.size_alloc, World.size_setCell, World.size_drew, World.heap_drewN] at _hz); obtain ⟨_hr3, _hr4⟩ := below_reads (show Below w.heap.size w W from (by repeat (first | (with_reducible assumption) | (with_reducible exact Below.refl _ _) | ((with_reducible refine Below.alloc ?_ ?_ _); rotate_left; (focus (first | omega | (simp only [World.size_alloc, World.size_setCell, World.size_drew, World.heap_drewN]; first | done | omega)))) | ((with_reducible refine Below.setCell ?_ ?_ _); rotate_left; (focus (first | omega | (simp only [World.size_alloc, World.size_setCell, World.size_drew, World.heap_drewN]; first | done | omega)))) | (with_reducible refine below_drewN ?_ _) | (with_reducible refine Below.drew ?_) | ((with_reducible refine Below.trans ?_ (Below.mono (by assumption) ?_)); rotate_left; (focus (first | omega | (simp only [World.size_alloc, World.size_setCell, World.size_drew, World.heap_drewN]; first | done | omega))))))); have _q0 : w.heap.size < W.heap.size := (by omega); have _q1 : w.heap.size + 1 < W.heap.size := (by omega)))
    have z1 := hb1.size
    have z3 := hb3.size
    have z4 := hb4.size
    simp only [World.size_alloc] at z1 z3 z4
    have B3 : Box W w.heap.size 25 #[.slice Ab nb cb, .slice As ns cs] := by (refine Box.of_f ?_; repeat (first | ((with_reducible refine BoxF.done (by with_reducible assumption) ?_); rfl) | ((with_reducible refine BoxF.new ?_ ?_); (focus (first | omega | (simp only [World.size_alloc, World.size_setCell, World.size_drew, World.heap_drewN]; first | done | omega))); rfl) | ((with_reducible refine BoxF.alloc ?_ ?_); (focus (first | omega | (simp only [World.size_alloc, World.size_setCell, World.size_drew, World.heap_drewN]; first | done | omega)))) | (with_reducible refine BoxF.set ?_) | ((with_reducible refine BoxF.far ?_ ?_); ((try simp only []); omega)) | (with_reducible refine BoxF.drewN ?_) | (with_reducible refine BoxF.drew ?_) | ((with_reducible refine BoxF.below (by with_reducible assumption) ?_ ?_); (focus (first | omega | (simp only [World.size_alloc, World.size_setCell, World.size_drew, World.heap_drewN]; first | done | omega))))))
    have B4 : Box W (w.heap.size + 1) 42 #[.int .i64 bar, .slice Ar nr cr] := by (refine Box.of_f ?_; repeat (first | ((with_reducible refine BoxF.done (by with_reducible assumption) ?_); rfl) | ((with_reducible refine BoxF.new ?_ ?_); (focus (first | omega | (simp only [World.size_alloc, World.size_setCell, World.size_drew, World.heap_drewN]; first | done | omega))); rfl) | ((with_reducible refine BoxF.alloc ?_ ?_); (focus (first | omega | (simp only [World.size_alloc, World.size_setCell, World.size_drew, World.heap_drewN]; first | done | omega)))) | (with_reducible refine BoxF.set ?_) | ((with_reducible refine BoxF.far ?_ ?_); ((try simp only []); omega)) | (with_reducible refine BoxF.drewN ?_) | (with_reducible refine BoxF.drew ?_) | ((with_reducible refine BoxF.below (by with_reducible assumption) ?_ ?_); (focus (first | omega | (simp only [World.size_alloc, World.size_setCell, World.size_drew, World.heap_drewN]; first | done | omega))))))
    have hW : Below w.heap.size w W := (by repeat (first | (with_reducible assumption) | (with_reducible exact Below.refl _ _) | ((with_reducible refine Below.alloc ?_ ?_ _); rotate_left; (focus (first | omega | (simp only [World.size_alloc, World.size_setCell, World.size_drew, World.heap_drewN]; first | done | omega)))) | ((with_reducible refine Below.setCell ?_ ?_ _); rotate_left; (focus (first | omega | (simp only [World.size_alloc, World.size_setCell, World.size_drew, World.heap_drewN]; first | done | omega)))) | (with_reducible refine below_drewN ?_ _) | (with_reducible refine Below.drew ?_) | ((with_reducible refine Below.trans ?_ (Below.mono (by assumption) ?_)); rotate_left; (focus (first | omega | (simp only [World.size_alloc, World.size_setCell, World.size_drew, World.heap_drewN]; first | done | omega))))))
    have H3 := box_cells2 B3
    have H4 := box_cells2 B4
    have P7' : Hid ((Fact.rgs L).holds r7 W) := Lib.hid (Fact.keep (Fact.rgs L) _ _ _ hb4 P7.out)
    have h0 : ∀ V, Below W.heap.size W V → Below w.heap.size w V := fun V hV => hW.trans (hV.mono hW.size)
    have H0 := Lib.hid h0
    clear hb1 hb3 hb4 z1 z3 z4 B3 B4 P7 h0
    have g2 : Below W.heap.size W W := Below.refl _ _
    -- region 5
    refine wp_region_facts (F := ?_) [Fact.rgs L, Fact.rgs L, Fact.eq (.bool true), Fact.eq (.bool true), Fact.eq (.int .i64 r), Fact.eq (.int .i64 r), Fact.eq (.bool true), Fact.eq (.bool true), Fact.eq (.bool true), Fact.eq (.agg #[.slice Ab nb cb, .slice As ns cs]), Fact.eq (.agg #[.int .i64 bar, .slice Ar nr cr]), Fact.eq (.slice Ah nh ch), Fact.eq (.int .i64 q), Fact.eq (.agg #[.slice Ab nb cb, .slice As ns cs]), Fact.eq (.agg #[.int .i64 bar, .slice Ar nr cr]), Fact.eq (.slice Ah nh ch), Fact.eq (.int .i64 q), Fact.eq (.bool true), Fact.eq (.bool true), Fact.eq (.bool true), Fact.eq (.bool true), Fact.eq (.bool true), Fact.eq (.bool true)] (by kernel_rfl) (by kernel_rfl) (by kernel_rfl) (by intro x; simp only [List.map_cons, List.map_nil, putAll, Act.put, List.setIfInBounds_toArray, List.set_cons_zero, List.set_cons_succ, Nat.zero_add, Nat.reduceAdd]; rfl) ?_ ?_
    · refine StepsF.cons (fun x V hV hp K hK => ?_) ?_
      · go_simp
        exact hK.out _ _ (Fact.keep (Fact.rgs L) _ _ _ hV P7'.out) (Below.refl _ _)
      refine StepsF.cons (fun x V hV hp K hK => ?_) ?_
      · go_simp
        exact hK.out _ _ (Fact.keep (Fact.rgs L) _ _ _ hV P9.out) (Below.refl _ _)
      refine StepsF.cons (fun x V hV hp K hK => ?_) ?_
      · have _p1 := depsAll_get hp 0 (by kernel_rfl)
        have _p2 := depsAll_get hp 1 (by kernel_rfl)
        generalize x 0 = _y1 at _p1 hK ⊢
        generalize x 1 = _y2 at _p2 hK ⊢
        have HP := Lib.hid (And.intro _p1 _p2)
        clear _p1 _p2
        go_simp
        refine Calls.mono (ranges_same HP.out.1 HP.out.2) ?_
        rintro e v1 ⟨rfl, hb⟩
        exact hK.out _ _ rfl hb
      refine StepsF.cons (fun x V hV hp K hK => ?_) ?_
      · have _e := depsAll_get hp 2 (by kernel_rfl); change x 2 = _ at _e; generalize x 2 = _y at _e hK ⊢; subst _e
        go_simp
        exact hK.out _ _ rfl (Below.refl _ _)
      refine StepsF.cons (fun x V hV hp K hK => ?_) ?_
      · have _e := depsAll_get hp 3 (by kernel_rfl); change x 3 = _ at _e; generalize x 3 = _y at _e hK ⊢; subst _e
        go_simp
        exact hK.out _ _ rfl (Below.refl _ _)
      refine StepsF.cons (fun x V hV hp K hK => ?_) ?_
      · have _e := depsAll_get hp 3 (by kernel_rfl); change x 3 = _ at _e; generalize x 3 = _y at _e hK ⊢; subst _e
        go_simp
        exact hK.out _ _ rfl (Below.refl _ _)
      refine StepsF.cons (fun x V hV hp K hK => ?_) ?_
      · have _e := depsAll_get hp 3 (by kernel_rfl); change x 3 = _ at _e; generalize x 3 = _y at _e hK ⊢; subst _e
        have _e := depsAll_get hp 4 (by kernel_rfl); change x 4 = _ at _e; generalize x 4 = _y at _e hK ⊢; subst _e
        have _e := depsAll_get hp 5 (by kernel_rfl); change x 5 = _ at _e; generalize x 5 = _y at _e hK ⊢; subst _e
        go_simp
        exact hK.out _ _ rfl (Below.refl _ _)
      refine StepsF.cons (fun x V hV hp K hK => ?_) ?_
      · have _e := depsAll_get hp 3 (by kernel_rfl); change x 3 = _ at _e; generalize x 3 = _y at _e hK ⊢; subst _e
        have _e := depsAll_get hp 6 (by kernel_rfl); change x 6 = _ at _e; generalize x 6 = _y at _e hK ⊢; subst _e
        go_simp
        exact hK.out _ _ rfl (Below.refl _ _)
      refine StepsF.cons (fun x V hV hp K hK => ?_) ?_
      · have _e := depsAll_get hp 7 (by kernel_rfl); change x 7 = _ at _e; generalize x 7 = _y at _e hK ⊢; subst _e
        go_simp
        exact hK.out _ _ rfl (Below.refl _ _)
      refine StepsF.cons (fun x V hV hp K hK => ?_) ?_
      · have _e := depsAll_get hp 8 (by kernel_rfl); change x 8 = _ at _e; generalize x 8 = _y at _e hK ⊢; subst _e
        obtain ⟨_c0, _c1⟩ := H3.out V (g2.trans (hV.mono g2.size))
        go_simp
        exact hK.out _ _ rfl (Below.refl _ _)
      refine StepsF.cons (fun x V hV hp K hK => ?_) ?_
      · have _e := depsAll_get hp 8 (by kernel_rfl); change x 8 = _ at _e; generalize x 8 = _y at _e hK ⊢; subst _e
        obtain ⟨_c0, _c1⟩ := H4.out V (g2.trans (hV.mono g2.size))
        go_simp
        exact hK.out _ _ rfl (Below.refl _ _)
      refine StepsF.cons (fun x V hV hp K hK => ?_) ?_
      · have _e := depsAll_get hp 8 (by kernel_rfl); change x 8 = _ at _e; generalize x 8 = _y at _e hK ⊢; subst _e
        go_simp
        exact hK.out _ _ rfl (Below.refl _ _)
      refine StepsF.cons (fun x V hV hp K hK => ?_) ?_
      · have _e := depsAll_get hp 8 (by kernel_rfl); change x 8 = _ at _e; generalize x 8 = _y at _e hK ⊢; subst _e
        have _e := depsAll_get hp 9 (by kernel_rfl); change x 9 = _ at _e; generalize x 9 = _y at _e hK ⊢; subst _e
        have _e := depsAll_get hp 10 (by kernel_rfl); change x 10 = _ at _e; generalize x 10 = _y at _e hK ⊢; subst _e
        have _e := depsAll_get hp 11 (by kernel_rfl); change x 11 = _ at _e; generalize x 11 = _y at _e hK ⊢; subst _e
        go_simp
        refine Calls.mono (HC1.out V (H0.out V (g2.trans (hV.mono g2.size)))) ?_
        rintro e v1 ⟨rfl, hb⟩
        exact hK.out _ _ rfl hb
      refine StepsF.cons (fun x V hV hp K hK => ?_) ?_
      · have _e := depsAll_get hp 8 (by kernel_rfl); change x 8 = _ at _e; generalize x 8 = _y at _e hK ⊢; subst _e
        obtain ⟨_c0, _c1⟩ := H3.out V (g2.trans (hV.mono g2.size))
        go_simp
        exact hK.out _ _ rfl (Below.refl _ _)
      refine StepsF.cons (fun x V hV hp K hK => ?_) ?_
      · have _e := depsAll_get hp 8 (by kernel_rfl); change x 8 = _ at _e; generalize x 8 = _y at _e hK ⊢; subst _e
        obtain ⟨_c0, _c1⟩ := H4.out V (g2.trans (hV.mono g2.size))
        go_simp
        exact hK.out _ _ rfl (Below.refl _ _)
      refine StepsF.cons (fun x V hV hp K hK => ?_) ?_
      · have _e := depsAll_get hp 8 (by kernel_rfl); change x 8 = _ at _e; generalize x 8 = _y at _e hK ⊢; subst _e
        go_simp
        exact hK.out _ _ rfl (Below.refl _ _)
      refine StepsF.cons (fun x V hV hp K hK => ?_) ?_
      · have _e := depsAll_get hp 8 (by kernel_rfl); change x 8 = _ at _e; generalize x 8 = _y at _e hK ⊢; subst _e
        have _e := depsAll_get hp 13 (by kernel_rfl); change x 13 = _ at _e; generalize x 13 = _y at _e hK ⊢; subst _e
        have _e := depsAll_get hp 14 (by kernel_rfl); change x 14 = _ at _e; generalize x 14 = _y at _e hK ⊢; subst _e
        have _e := depsAll_get hp 15 (by kernel_rfl); change x 15 = _ at _e; generalize x 15 = _y at _e hK ⊢; subst _e
        go_simp
        refine Calls.mono (HC2.out V (H0.out V (g2.trans (hV.mono g2.size)))) ?_
        rintro e v1 ⟨rfl, hb⟩
        exact hK.out _ _ rfl hb
      refine StepsF.cons (fun x V hV hp K hK => ?_) ?_
      · have _e := depsAll_get hp 8 (by kernel_rfl); change x 8 = _ at _e; generalize x 8 = _y at _e hK ⊢; subst _e
        have _e := depsAll_get hp 12 (by kernel_rfl); change x 12 = _ at _e; generalize x 12 = _y at _e hK ⊢; subst _e
        have _e := depsAll_get hp 16 (by kernel_rfl); change x 16 = _ at _e; generalize x 16 = _y at _e hK ⊢; subst _e
        go_simp
        exact hK.out _ _ rfl (Below.refl _ _)
      refine StepsF.cons (fun x V hV hp K hK => ?_) ?_
      · have _e := depsAll_get hp 8 (by kernel_rfl); change x 8 = _ at _e; generalize x 8 = _y at _e hK ⊢; subst _e
        have _e := depsAll_get hp 17 (by kernel_rfl); change x 17 = _ at _e; generalize x 17 = _y at _e hK ⊢; subst _e
        go_simp
        exact hK.out _ _ rfl (Below.refl _ _)
      refine StepsF.cons (fun x V hV hp K hK => ?_) ?_
      · have _e := depsAll_get hp 18 (by kernel_rfl); change x 18 = _ at _e; generalize x 18 = _y at _e hK ⊢; subst _e
        go_simp
        exact hK.out _ _ rfl (Below.refl _ _)
      refine StepsF.cons (fun x V hV hp K hK => ?_) ?_
      · have _e := depsAll_get hp 19 (by kernel_rfl); change x 19 = _ at _e; generalize x 19 = _y at _e hK ⊢; subst _e
        go_simp
        refine Calls.mono (works_any V) ?_
        rintro e v1 ⟨rfl, hb⟩
        exact hK.out _ _ rfl hb
      refine StepsF.cons (fun x V hV hp K hK => ?_) ?_
      · have _e := depsAll_get hp 19 (by kernel_rfl); change x 19 = _ at _e; generalize x 19 = _y at _e hK ⊢; subst _e
        have _e := depsAll_get hp 20 (by kernel_rfl); change x 20 = _ at _e; generalize x 20 = _y at _e hK ⊢; subst _e
        go_simp
        exact hK.out _ _ rfl (Below.refl _ _)
      refine StepsF.cons (fun x V hV hp K hK => ?_) ?_
      · have _e := depsAll_get hp 21 (by kernel_rfl); change x 21 = _ at _e; generalize x 21 = _y at _e hK ⊢; subst _e
        go_simp
        exact hK.out _ _ rfl (Below.refl _ _)
      exact StepsF.nil
    intro x v5 hV hall
    have g5 : Below W.heap.size W v5 := g2.trans (hV.mono g2.size)
    have _e := hall 22 (by decide)
    change x 22 = _ at _e
    generalize x 22 = _y at _e ⊢
    subst _e
    have D5 := Lib.hid hV
    clear hV hall
    go_wp2_with fail
    go_ret
    exact ⟨rfl, H0.out _ g5⟩
  · have G := Lib.hid hg
    clear hg
    go_enter Try.func4, Try.ntmps4
    go_wp2_with (first
      | (go_at_call 14; refine (HG.out _ (by repeat (first | (with_reducible assumption) | (with_reducible exact Below.refl _ _) | ((with_reducible refine Below.alloc ?_ ?_ _); rotate_left; (focus (first | omega | (simp only [World.size_alloc, World.size_setCell, World.size_drew, World.heap_drewN]; first | done | omega)))) | ((with_reducible refine Below.setCell ?_ ?_ _); rotate_left; (focus (first | omega | (simp only [World.size_alloc, World.size_setCell, World.size_drew, World.heap_drewN]; first | done | omega)))) | (with_reducible refine below_drewN ?_ _) | (with_reducible refine Below.drew ?_) | ((with_reducible refine Below.trans ?_ (Below.mono (by assumption) ?_)); rotate_left; (focus (first | omega | (simp only [World.size_alloc, World.size_setCell, World.size_drew, World.heap_drewN]; first | done | omega))))))).mono ?_; rintro e w1 ⟨rfl, hb1⟩; rw [G.out]; obtain ⟨_hr1, _hr2⟩ := below_reads hb1; have _hz := Below.size hb1; (try simp only [World.size_alloc, World.size_setCell, World.size_drew, World.heap_drewN] at _hz); obtain ⟨_hr3, _hr4⟩ := below_reads (show Below w.heap.size w w1 from (by repeat (first | (with_reducible assumption) | (with_reducible exact Below.refl _ _) | ((with_reducible refine Below.alloc ?_ ?_ _); rotate_left; (focus (first | omega | (simp only [World.size_alloc, World.size_setCell, World.size_drew, World.heap_drewN]; first | done | omega)))) | ((with_reducible refine Below.setCell ?_ ?_ _); rotate_left; (focus (first | omega | (simp only [World.size_alloc, World.size_setCell, World.size_drew, World.heap_drewN]; first | done | omega)))) | (with_reducible refine below_drewN ?_ _) | (with_reducible refine Below.drew ?_) | ((with_reducible refine Below.trans ?_ (Below.mono (by assumption) ?_)); rotate_left; (focus (first | omega | (simp only [World.size_alloc, World.size_setCell, World.size_drew, World.heap_drewN]; first | done | omega))))))); have _q0 : w.heap.size < w1.heap.size := (by omega); have _q1 : w.heap.size + 1 < w1.heap.size := (by omega))
      | (go_at_call 16; refine (works_any _).mono ?_; rintro e w3 ⟨rfl, hb3⟩; obtain ⟨_hr1, _hr2⟩ := below_reads hb3; have _hz := Below.size hb3; (try simp only [World.size_alloc, World.size_setCell, World.size_drew, World.heap_drewN] at _hz); obtain ⟨_hr3, _hr4⟩ := below_reads (show Below w.heap.size w w3 from (by repeat (first | (with_reducible assumption) | (with_reducible exact Below.refl _ _) | ((with_reducible refine Below.alloc ?_ ?_ _); rotate_left; (focus (first | omega | (simp only [World.size_alloc, World.size_setCell, World.size_drew, World.heap_drewN]; first | done | omega)))) | ((with_reducible refine Below.setCell ?_ ?_ _); rotate_left; (focus (first | omega | (simp only [World.size_alloc, World.size_setCell, World.size_drew, World.heap_drewN]; first | done | omega)))) | (with_reducible refine below_drewN ?_ _) | (with_reducible refine Below.drew ?_) | ((with_reducible refine Below.trans ?_ (Below.mono (by assumption) ?_)); rotate_left; (focus (first | omega | (simp only [World.size_alloc, World.size_setCell, World.size_drew, World.heap_drewN]; first | done | omega))))))); have _q0 : w.heap.size < w3.heap.size := (by omega); have _q1 : w.heap.size + 1 < w3.heap.size := (by omega)))
    go_ret
    exact ⟨rfl, (by repeat (first | (with_reducible assumption) | (with_reducible exact Below.refl _ _) | ((with_reducible refine Below.alloc ?_ ?_ _); rotate_left; (focus (first | omega | (simp only [World.size_alloc, World.size_setCell, World.size_drew, World.heap_drewN]; first | done | omega)))) | ((with_reducible refine Below.setCell ?_ ?_ _); rotate_left; (focus (first | omega | (simp only [World.size_alloc, World.size_setCell, World.size_drew, World.heap_drewN]; first | done | omega)))) | (with_reducible refine below_drewN ?_ _) | (with_reducible refine Below.drew ?_) | ((with_reducible refine Below.trans ?_ (Below.mono (by assumption) ?_)); rotate_left; (focus (first | omega | (simp only [World.size_alloc, World.size_setCell, World.size_drew, World.heap_drewN]; first | done | omega))))))⟩
end Go.Proofs.Ytigpefjeelgfdaa

/-
  The last step of a law's row, from 'what was there is as it was' alone.
-/
namespace Go.Proofs.Ytigpefjeelgfdaa
open Go.ChangeShapes Go.WideShapes Go.ChangeAt Go.RowKit

/-- A law that takes no package variable: it answers, what was there is as it was, and the arguments read as they did. -/
theorem post_later {H : Type} {enc : TypeId × Value → H} {P : Program} {f : Func} {s : ChangeSpec} {apart fresh handsOn again : Bool} {W W' : World} {args : Array Value} {v : Value} {ds gs : List (DataW H)} {before pa pv : List MemPlace}
    (hW : DataW.Whole enc P f.params.toList s.vars apart W args.toList ds gs before) (hsplit : before = pa ++ pv)
    (hr : ∀ (b : Nat) (sp : Nat → Bool) (hd : Bool), DataW.TrodAll enc P W' b sp hd f.resultTypes.toList (v.resultList f.resultTypes.size) (s.fn H (ds ++ gs)).results [])
    (ha : ∀ sp : Nat → Bool, (∀ p ∈ before, sp p.block = true) → DataW.TrodAll enc P W' 0 sp true f.params.toList args.toList (s.fn H (ds ++ gs)).args pa)
    (hv : ∀ sp : Nat → Bool, (∀ p ∈ before, sp p.block = true) → DataW.TrodVars enc P W' sp s.vars (s.fn H (ds ++ gs)).vars pv)
    (hk : ∀ (j : Nat) (t : TypeId) (r : Value), f.resultTypes[j]? = some t → (v.resultList f.resultTypes.size)[j]? = some r → Value.okWide P W' .any 0 t r)
    (hb : Below W.heap.size W W') : s.post enc P f apart fresh handsOn again W args v W' := by
  have inside : ∀ p, p ∈ before → p.block < W.heap.size := fun p hp => hW.lt p hp
  have keep : ∀ p ∈ before, (decide ((p : MemPlace).block < W.heap.size)) = true := fun p hp => decide_eq_true (inside p hp)
  refine ⟨ds, gs, before, [], pa, pv, hW, hr _ _ _, ha (fun b => decide (b < W.heap.size)) keep, hv (fun b => decide (b < W.heap.size)) keep, ?_, ?_⟩
  · refine World.keptBut_mono (fun p hp => ⟨hp, ?_⟩) (hb.frame (· ∈ before))
    right
    rw [hsplit, List.mem_append] at hp
    exact hp
  · intro _
    obtain ⟨_, _, _, _, _, hz, hn⟩ := hW
    have e : [] ++ pa ++ pv = before := by rw [hsplit, List.nil_append]
    refine ⟨hk, _, _, [] ++ pa ++ pv, ⟨[] ++ pa, pv, trodAll_append (ha _ fun _ _ => rfl) (hr _ _ _), hv _ fun _ _ => rfl, rfl, fun b off hp => ?_, fun h => ?_⟩, fun p hp _ => ?_⟩
    · rw [e] at hp
      rw [hb.frozen (inside _ hp)]
      exact hz b off hp
    · have := hn h
      rw [← e] at this
      simpa using this
    · rw [e] at hp
      simpa using hp
end Go.Proofs.Ytigpefjeelgfdaa

/-
  What came in, as the words of these texts have it: slices, structs, works, recipes; and that it reads again behind a call that leaves it alone.
-/
namespace Go.Proofs.Ytigpefjeelgfdaa
open Go.ChangeShapes Go.WideShapes Go.ChangeAt Go.RowKit Go.Deep

section
variable {H : Type} {enc : TypeId × Value → H} {P : Program} {w : World}

theorem list_of {α : Type} {R : Nat → α → Prop} : ∀ (n : Nat), (∀ i, i < n → ∃ x, R i x) → ∃ l : List α, l.length = n ∧ ∀ i x, l[i]? = some x → R i x
  | 0, _ => ⟨[], rfl, fun i x h => by simp at h⟩
  | n + 1, h => by
    obtain ⟨l, hl, hx⟩ := list_of n fun i hi => h i (by omega)
    obtain ⟨y, hy⟩ := h n (by omega)
    refine ⟨l ++ [y], by simp [hl], fun i x hi => ?_⟩
    rcases Nat.lt_or_ge i n with h1 | h1
    · rw [List.getElem?_append_left (by omega)] at hi
      exact hx i x hi
    · rw [List.getElem?_append_right (by omega)] at hi
      have : i = n := by
        have := (List.getElem?_eq_some_iff.1 hi).1
        simp at this
        omega
      subst this
      simp [hl] at hi
      subst hi
      exact hy

/-- An element that is read off cells. -/
def ElemOf (enc : TypeId × Value → H) (P : Program) (w : World) {α : Type} (R : World → Nat → Nat → α → Prop) (size : Nat) (e : TypeId) : Prop :=
  ∀ (b off : Nat) (cs : List Value) (n : Nat) (x : DataW H × List MemPlace), b < w.heap.size → cs.length = size → (∀ j u, cs[j]? = some u → w.cell? ⟨b, off + j, none⟩ = some u) → DataW.trod enc P w 0 (fun _ => true) true n e cs = some x → ∃ y, R w b off y

theorem open_sl {α : Type} {R : World → Nat → Nat → α → Prop} {size : Nat} {t e : TypeId} {fuel : Nat} {cs : List Value} {x : DataW H × List MemPlace} (ht : P.underlying t = some (.slice e)) (hc : P.cellsOf e = size) (h0 : 0 < size)
    (he : ElemOf enc P w R size e) (h : DataW.trod enc P w 0 (fun _ => true) true fuel t cs = some x) : ∃ v l, cs = [v] ∧ SL R size w w.heap.size v l := by
  rcases open_slice ht h with ⟨h1, _⟩ | ⟨a, len, cap, m, n, D, Pl, hcs, hb, hl, hmx, hm, hx, hel⟩
  · exact ⟨_, [], h1, SL.nil _ _ _ _⟩
  · have hmc : m = cap := by simpa using hm
    obtain ⟨b, off, spot⟩ := a
    have cell : ∀ i, i < m → ∃ cs', cs'.length = size ∧ (∀ j u, cs'[j]? = some u → w.cell? (Addr.add ⟨b, off, spot⟩ (i * size + j)) = some u) ∧ DataW.trod enc P w 0 (fun _ => true) true n e cs' = some (D i, Pl i) := by
      intro i hi
      obtain ⟨cs', h1, h2⟩ := hel i hi
      rw [hc] at h1
      obtain ⟨_, hlen, hat⟩ := World.cells?_some h1
      refine ⟨cs', hlen, fun j u hj => ?_, h2⟩
      have hjl : j < size := by rw [← hlen]; exact (List.getElem?_eq_some_iff.1 hj).1
      rw [← Go.Deep.add_add, hat j hjl, hj]
    have spot0 : 0 < m → spot = none := fun hm0 => by
      obtain ⟨cs', h1, h2, _⟩ := cell 0 hm0
      have h3 : cs'[0]? = some (cs'[0]'(by omega)) := List.getElem?_eq_getElem (by omega)
      have := World.cell?_spot (h2 0 _ h3)
      simpa [Addr.add] using this
    by_cases hm0 : len = 0
    · subst hm0
      exact ⟨_, [], hcs, some ⟨b, off, spot⟩, cap, rfl, by simp, by unfold maxLen at hmx; omega, fun h => absurd h (by simp)⟩
    have hsp := spot0 (by omega)
    subst hsp
    have hb2 : b < w.heap.size := by
      obtain ⟨cs', h1, h2, _⟩ := cell 0 (by omega)
      have h3 : cs'[0]? = some (cs'[0]'(by omega)) := List.getElem?_eq_getElem (by omega)
      have h4 := World.block_lt_of_cell? w _ (h2 0 _ h3)
      simpa [Addr.add] using h4
    obtain ⟨l, hll, hlx⟩ := list_of (R := fun i y => R w b (off + i * size) y) len fun i hi => by
      obtain ⟨cs', h1, h2, h3⟩ := cell i (by omega)
      refine he b (off + i * size) cs' n _ hb2 h1 (fun j u hj => ?_) h3
      have := h2 j u hj
      by_cases e0 : i * size + j = 0
      · rw [e0] at this
        have e1 : off + i * size + j = off := by omega
        rw [e1]
        simpa [Addr.add] using this
      · simp only [Addr.add, if_neg e0] at this
        rwa [Nat.add_assoc]
    exact ⟨_, l, hcs, some ⟨b, off, none⟩, cap, by rw [hll], by omega, by unfold maxLen at hmx; omega, fun _ => ⟨b, off, rfl, hb2, hlx⟩⟩

theorem elem_int {k : IntKind} {e : TypeId} (he : P.underlying e = some (.int k)) : ElemOf enc P w (IntAt k) 1 e := by
  intro b off cs n x hb hl hat h
  obtain ⟨m, rfl, _⟩ := DataW.trod_int he h
  exact ⟨m, hat 0 _ rfl⟩
theorem elem_range {e ti : TypeId} {f0 f1 : Field} (he : P.underlying e = some (.struct #[f0, f1])) (h0 : f0.type = ti) (h1 : f1.type = ti) (o0 : f0.offset = 0) (o1 : f1.offset = 1) (hi : P.underlying ti = some (.int .i64)) (hc : P.cellsOf ti = 1) : ElemOf enc P w RgAt 2 e := by
  intro b off cs n x hb hl hat h
  obtain ⟨y0, y1, m, _, _, g0, g1⟩ := trod_struct2 he h
  rw [h0, hc, o0] at g0
  rw [h1, hc, o1] at g1
  match cs, hl with
  | [u, v], _ =>
    obtain ⟨n0, e0, _⟩ := DataW.trod_int hi g0
    obtain ⟨n1, e1, _⟩ := DataW.trod_int hi g1
    simp at e0 e1
    subst e0
    subst e1
    exact ⟨(n0, n1), hat 0 _ rfl, hat 1 _ rfl⟩
theorem elem_kink {e ti tr : TypeId} {f0 f1 g0 g1 : Field} (he : P.underlying e = some (.struct #[f0, f1])) (hr : P.underlying tr = some (.struct #[g0, g1])) (h0 : f0.type = ti) (h1 : f1.type = tr) (o0 : f0.offset = 0) (o1 : f1.offset = 1)
    (k0 : g0.type = ti) (k1 : g1.type = ti) (p0 : g0.offset = 0) (p1 : g1.offset = 1) (hi : P.underlying ti = some (.int .i64)) (hc : P.cellsOf ti = 1) (hcr : P.cellsOf tr = 2) : ElemOf enc P w KinkAt 3 e := by
  intro b off cs n x hb hl hat h
  obtain ⟨y0, y1, m, _, _, q0, q1⟩ := trod_struct2 he h
  rw [h0, hc, o0] at q0
  rw [h1, hcr, o1] at q1
  obtain ⟨z0, z1, m1, _, _, r0, r1⟩ := trod_struct2 hr q1
  rw [k0, hc, p0] at r0
  rw [k1, hc, p1] at r1
  match cs, hl with
  | [u, v, t], _ =>
    obtain ⟨n0, e0, _⟩ := DataW.trod_int hi q0
    obtain ⟨n1, e1, _⟩ := DataW.trod_int hi r0
    obtain ⟨n2, e2, _⟩ := DataW.trod_int hi r1
    simp at e0 e1 e2
    subst e0
    subst e1
    subst e2
    exact ⟨⟨n0, n1, n2⟩, hat 0 _ rfl, hat 1 _ rfl, hat 2 _ rfl⟩
/-- A struct whose only field is a slice. -/
theorem elem_box {α : Type} {R : World → Nat → Nat → α → Prop} {size : Nat} {e ts te : TypeId} {f0 : Field} (he : P.underlying e = some (.struct #[f0])) (h0 : f0.type = ts) (o0 : f0.offset = 0) (hs : P.underlying ts = some (.slice te)) (hcs : P.cellsOf ts = 1) (hc : P.cellsOf te = size) (hz : 0 < size)
    (hel : ElemOf enc P w R size te) : ElemOf enc P w (fun w b off l => ∃ v, w.cell? ⟨b, off, none⟩ = some v ∧ SL R size w w.heap.size v l) 1 e := by
  intro b off cs n x hb hl hat h
  obtain ⟨y0, m, _, _, q0⟩ := trod_struct1 he h
  rw [h0, hcs, o0] at q0
  match cs, hl with
  | [u], _ =>
    obtain ⟨v, l, hv, hsl⟩ := open_sl hs hc hz hel q0
    simp at hv
    subst hv
    exact ⟨l, u, hat 0 _ rfl, hsl⟩

/-- What came in reads again, where all that was there is as it was. -/
theorem args_later {W W' : World} {T : TypeId → Prop} (K : Kids P T) (hz : ∀ t e, T t → P.underlying t = some (.slice e) → 0 < P.cellsOf e) {ts : List TypeId} {vs : List Value} {ds : List (DataW H)} {ps : List MemPlace}
    (hT : ∀ t ∈ ts, T t) (h : DataW.TrodAll enc P W 0 (fun _ => true) true ts vs ds ps) (hb : Below W.heap.size W W') {sp : Nat → Bool} (hs : ∀ p ∈ ps, sp p.block = true) : DataW.TrodAll enc P W' 0 sp true ts vs ds ps := by
  have carry : ∀ {ts : List TypeId} {vs : List Value} {ds : List (DataW H)} {ps : List MemPlace}, DataW.TrodAll enc P W 0 (fun _ => true) true ts vs ds ps → DataW.TrodAll enc P W' 0 (fun _ => true) true ts vs ds ps := by
    intro ts
    induction ts with
    | nil =>
      intro vs ds ps h
      obtain ⟨rfl, rfl, rfl⟩ := trodAll_nil h
      rfl
    | cons t ts ih =>
      intro vs ds ps h
      obtain ⟨v, vs1, d, ds1, a, b, rfl, rfl, rfl, ⟨n, h1⟩, h2⟩ := trodAll_cons h
      refine ⟨a, b, ⟨n, DataW.trod_carry n _ _ _ h1 fun p hp => ?_⟩, ih h2, rfl⟩
      have hlt := DataW.trod_lt n _ _ _ h1 p hp
      cases p with
      | cell bl off => exact hb.cell (p := ⟨bl, off, none⟩) hlt
      | map bl => exact hb.block bl hlt
  exact (carry h).respare K hz hT hs
end
end Go.Proofs.Ytigpefjeelgfdaa

/-
  What came in, at the types of layer 1's statements.
-/
namespace Go.Proofs.Ytigpefjeelgfdaa
open Go.ChangeShapes Go.WideShapes Go.ChangeAt Go.RowKit Go.Deep

theorem kids : Kids Try.prog (· < Try.prog.types.size) := kids_rows (by kernel_rfl) (by kernel_rfl)
theorem full : ∀ t e, t < Try.prog.types.size → Try.prog.underlying t = some (.slice e) → 0 < Try.prog.cellsOf e := slices_full_of Try.prog (by kernel_rfl)

theorem list_two {l : List Value} (h : l.toArray.size = 2) : ∃ a b, l = [a, b] := by
  rcases l with _ | ⟨a, _ | ⟨b, _ | ⟨c, l⟩⟩⟩
  · simp at h
  · simp at h
  · exact ⟨a, b, rfl⟩
  · simp at h
theorem list_one {l : List Value} (h : l.toArray.size = 1) : ∃ a, l = [a] := by
  rcases l with _ | ⟨a, _ | ⟨b, l⟩⟩
  · simp at h
  · exact ⟨a, rfl⟩
  · simp at h
theorem one_eq {u v : Value} (h : [u] = [v]) : u = v := by simpa using h
section
variable {H : Type} {enc : TypeId × Value → H} {w : World}
theorem el_i64 : ElemOf enc Try.prog w (IntAt .i64) 1 (2 : Nat) := elem_int Try.underlying2
theorem el_int : ElemOf enc Try.prog w (IntAt .i64) 1 (3 : Nat) := elem_int Try.underlying3
theorem el_range : ElemOf enc Try.prog w RgAt 2 (33 : Nat) := elem_range Try.underlying33 rfl rfl rfl rfl Try.underlying2 (by kernel_rfl)
theorem el_kink : ElemOf enc Try.prog w KinkAt 3 (93 : Nat) := elem_kink Try.underlying93 Try.underlying33 rfl rfl rfl rfl rfl rfl rfl rfl Try.underlying2 (by kernel_rfl) (by kernel_rfl)
theorem el_way : ElemOf enc Try.prog w (fun w b off l => ∃ v, w.cell? ⟨b, off, none⟩ = some v ∧ SL KinkAt 3 w w.heap.size v l) 1 (28 : Nat) :=
  elem_box Try.underlying28 rfl rfl Try.underlying26 (by kernel_rfl) (by kernel_rfl) (by decide) el_kink
theorem el_step : ElemOf enc Try.prog w (fun w b off l => ∃ v, w.cell? ⟨b, off, none⟩ = some v ∧ SL (fun w b off l => ∃ v, w.cell? ⟨b, off, none⟩ = some v ∧ SL KinkAt 3 w w.heap.size v l) 1 w w.heap.size v l) 1 (88 : Nat) :=
  elem_box Try.underlying88 rfl rfl Try.underlying86 (by kernel_rfl) (by kernel_rfl) (by decide) el_way

set_option maxRecDepth 100000 in
theorem open_works {base : Nat} {v : Value} {d : DataW H} {p : List MemPlace} (hv : Value.okWide Try.prog w .any base (25 : Nat) v) (h : DataW.Trod enc Try.prog w 0 (fun _ => true) true (25 : Nat) v d p) :
    ∃ (Ab As : Option Addr) (cb cs : Nat) (x : Works), v = .agg #[.slice Ab x.bars.length cb, .slice As x.steps.length cs] ∧ In w w.heap.size Ab As none cb cs 0 x [] := by
  obtain ⟨⟨l⟩, rfl, hsz⟩ := okWide_struct Try.underlying25 hv
  obtain ⟨fuel, hf⟩ := h
  obtain ⟨y0, y1, n, _, _, g0, g1⟩ := trod_struct2 Try.underlying25 hf
  have hc : Try.prog.cellsOf (25 : Nat) = 2 := by kernel_rfl
  rw [hc] at hsz
  obtain ⟨u0, u1, rfl⟩ := list_two hsz
  obtain ⟨v0, bars, e0, A0, c0, k0, k1, k2, s0⟩ := open_sl Try.underlying22 (by kernel_rfl) (by decide) el_range g0
  obtain ⟨v1, steps, e1, A1, c1, j0, j1, j2, s1⟩ := open_sl Try.underlying23 (by kernel_rfl) (by decide) el_step g1
  have q0 : u0 = v0 := one_eq e0
  have q1 : u1 = v1 := one_eq e1
  subst q0
  subst q1
  subst k0
  subst j0
  exact ⟨A0, A1, c0, c1, ⟨bars, steps⟩, rfl, ⟨s0, s1, fun h => absurd h (by simp), k1, k2, j1, j2, by simp, by omega, Nat.le_refl _⟩⟩
set_option maxRecDepth 100000 in
theorem open_way {base : Nat} {v : Value} {d : DataW H} {p : List MemPlace} (hv : Value.okWide Try.prog w .any base (28 : Nat) v) (h : DataW.Trod enc Try.prog w 0 (fun _ => true) true (28 : Nat) v d p) :
    ∃ (A : Option Addr) (c : Nat) (ks : List Kink), v = .agg #[.slice A ks.length c] ∧ KinksA w w.heap.size A ks ∧ ks.length ≤ c ∧ c ≤ 9223372036854775807 := by
  obtain ⟨⟨l⟩, rfl, hsz⟩ := okWide_struct Try.underlying28 hv
  obtain ⟨fuel, hf⟩ := h
  obtain ⟨y0, n, _, _, g0⟩ := trod_struct1 Try.underlying28 hf
  have hc : Try.prog.cellsOf (28 : Nat) = 1 := by kernel_rfl
  rw [hc] at hsz
  obtain ⟨u0, rfl⟩ := list_one hsz
  obtain ⟨v0, ks, e0, A0, c0, k0, k1, k2, s0⟩ := open_sl Try.underlying26 (by kernel_rfl) (by decide) el_kink g0
  have q0 : u0 = v0 := one_eq e0
  subst q0
  subst k0
  exact ⟨A0, c0, ks, rfl, s0, k1, k2⟩
set_option maxRecDepth 100000 in
theorem open_recipe {base : Nat} {v : Value} {d : DataW H} {p : List MemPlace} (hv : Value.okWide Try.prog w .any base (42 : Nat) v) (h : DataW.Trod enc Try.prog w 0 (fun _ => true) true (42 : Nat) v d p) :
    ∃ (bar : Int) (A : Option Addr) (c : Nat) (ways : List Int), v = .agg #[.int .i64 bar, .slice A ways.length c] ∧ IntsA .i64 w w.heap.size A ways ∧ ways.length ≤ c ∧ c ≤ 9223372036854775807 := by
  obtain ⟨⟨l⟩, rfl, hsz⟩ := okWide_struct Try.underlying42 hv
  obtain ⟨fuel, hf⟩ := h
  obtain ⟨y0, y1, n, _, _, g0, g1⟩ := trod_struct2 Try.underlying42 hf
  have hc : Try.prog.cellsOf (42 : Nat) = 2 := by kernel_rfl
  rw [hc] at hsz
  obtain ⟨u0, u1, rfl⟩ := list_two hsz
  obtain ⟨bar, e0, _⟩ := DataW.trod_int Try.underlying3 g0
  obtain ⟨v1, ways, e1, A1, c1, j0, j1, j2, s1⟩ := open_sl Try.underlying40 (by kernel_rfl) (by decide) el_int g1
  have q0 : u0 = .int .i64 bar := one_eq e0
  have q1 : u1 = v1 := one_eq e1
  subst q0
  subst q1
  subst j0
  exact ⟨bar, A1, c1, ways, rfl, s1, j1, j2⟩
set_option maxRecDepth 100000 in
theorem open_measured {base : Nat} {v : Value} {d : DataW H} {p : List MemPlace} (hv : Value.okWide Try.prog w .any base (33 : Nat) v) (h : DataW.Trod enc Try.prog w 0 (fun _ => true) true (33 : Nat) v d p) :
    ∃ lo hi : Int, v = .agg #[.int .i64 lo, .int .i64 hi] := by
  obtain ⟨⟨l⟩, rfl, hsz⟩ := okWide_struct Try.underlying33 hv
  obtain ⟨fuel, hf⟩ := h
  obtain ⟨y0, y1, n, _, _, g0, g1⟩ := trod_struct2 Try.underlying33 hf
  have hc : Try.prog.cellsOf (33 : Nat) = 2 := by kernel_rfl
  rw [hc] at hsz
  obtain ⟨u0, u1, rfl⟩ := list_two hsz
  obtain ⟨lo, e0, _⟩ := DataW.trod_int Try.underlying2 g0
  obtain ⟨hi, e1, _⟩ := DataW.trod_int Try.underlying2 g1
  have q0 : u0 = .int .i64 lo := one_eq e0
  have q1 : u1 = .int .i64 hi := one_eq e1
  subst q0
  subst q1
  exact ⟨lo, hi, rfl⟩
set_option maxRecDepth 100000 in
theorem open_int {base : Nat} {t : TypeId} {k : IntKind} {v : Value} {d : DataW H} {p : List MemPlace} (ht : Try.prog.underlying t = some (.int k)) (hv : Value.okWide Try.prog w .any base t v) (h : DataW.Trod enc Try.prog w 0 (fun _ => true) true t v d p) :
    ∃ n : Int, v = .int k n ∧ (Lit.int k n).wf = true := by
  obtain ⟨n, rfl⟩ := okWide_int ht hv
  obtain ⟨fuel, hf⟩ := h
  obtain ⟨m, e, _, hw⟩ := DataW.trod_int ht hf
  have e2 : Value.int k n = .int k m := one_eq e
  obtain rfl : n = m := by simpa using e2
  exact ⟨n, rfl, hw⟩
set_option maxRecDepth 100000 in
theorem open_list {k : IntKind} {t e : TypeId} {base : Nat} {v : Value} {d : DataW H} {p : List MemPlace} (ht : Try.prog.underlying t = some (.slice e)) (hc : Try.prog.cellsOf e = 1) (he : Try.prog.underlying e = some (.int k)) (hv : Value.okWide Try.prog w .any base t v) (h : DataW.Trod enc Try.prog w 0 (fun _ => true) true t v d p) :
    ∃ (A : Option Addr) (c : Nat) (l : List Int), v = .slice A l.length c ∧ IntsA k w w.heap.size A l ∧ l.length ≤ c ∧ c ≤ 9223372036854775807 := by
  obtain ⟨a, n, c, rfl⟩ := okWide_slice ht hv
  obtain ⟨fuel, hf⟩ := h
  obtain ⟨v1, l, e1, A1, c1, j0, j1, j2, s1⟩ := open_sl ht hc (by decide) (elem_int he) hf
  have q1 : Value.slice a n c = v1 := one_eq e1
  subst q1
  rw [j0]
  exact ⟨A1, c1, l, rfl, s1, j1, j2⟩
end
end Go.Proofs.Ytigpefjeelgfdaa

namespace Go.Proofs.Ytigpefjeelgfdaa.heatRanges
open Go.ChangeShapes Go.WideShapes Go.ChangeAt Go.RowKit

theorem own : ownKnob Try.prog.godebug = none := by kernel_rfl
theorem rowed : ∀ t ∈ Try.f4.params.toList, t < Try.prog.types.size := of_decide_eq_true (by kernel_rfl)

set_option maxRecDepth 100000 in
set_option maxHeartbeats 1000000 in
theorem lifted (os : Os) (started : os.Started) (H : Type) (enc : TypeId × Value → H) :
    ReturnsInHanded {} Try.checked os 4 .any (Rows.heatRangesSpec.pre6 enc Try.prog Try.f4 Rows.heatRangesRow.domain false) (Rows.heatRangesSpec.post enc Try.prog Try.f4 false true false false) := by
  refine returnsInHanded_of_change (C := Try.checked) own started (by kernel_rfl) Try.func4
    (ChangeSpec.witness6 (enc := enc) (C := Try.checked) false ⟨#[], #[.agg #[.slice none 0 0, .slice none 0 0], .agg #[.int .i64 0, .slice none 0 0], .slice none 0 0], []⟩ 8 (by kernel_rfl) (by kernel_rfl) (by kernel_rfl) (by kernel_rfl)) ?_
  intro W base args ds gs before hval0 hW hcnd _
  have hval : ∀ (j : Nat) t v, Try.f4.params[j]? = some t → args[j]? = some v → Value.okWide Try.prog W .any base t v := hval0
  have hW' := hW
  obtain ⟨p, q, hA0, hV, rfl, hfz, hnd⟩ := hW
  have hA : DataW.TrodAll enc Try.prog W 0 (fun _ => true) true Try.f4.params.toList args.toList ds p := hA0
  have hAk := hA
  rw [Try.params4] at hA hval
  obtain ⟨v0, vs0, d0, ds0, a0, b0, e0, f0, rfl, h0, t0⟩ := trodAll_cons hA
  obtain ⟨v1, vs1, d1, ds1, a1, b1, e1, f1, rfl, h1, t1⟩ := trodAll_cons t0
  obtain ⟨v2, vs2, d2, ds2, a2, b2, e2, f2, rfl, h2, t2⟩ := trodAll_cons t1
  obtain ⟨en, fn, rfl⟩ := trodAll_nil t2
  subst en
  subst fn
  subst e2
  subst f2
  subst e1
  subst f1
  subst f0
  have ea : args = #[v0, v1, v2] := by rw [← Array.toList_inj]; exact e0
  subst ea
  clear e0
  obtain ⟨rfl, rfl⟩ := trodVars_none hV
  clear hA0 hval0 hA
  simp only [List.append_nil] at hW' hAk
  have o0 := hval 0 _ _ rfl rfl
  have o1 := hval 1 _ _ rfl rfl
  have o2 := hval 2 _ _ rfl rfl
  clear hval
  obtain ⟨Ab, As, cb, cs, x, rfl, hin⟩ := open_works o0 h0
  obtain ⟨bar, Ar, cr, ways, rfl, hr, hr1, hr2⟩ := open_recipe o1 h1
  obtain ⟨Ah, ch, hist, rfl, hh, hh1, hh2⟩ := open_list Try.underlying43 (by kernel_rfl) Try.underlying2 o2 h2
  refine Calls.mono (rangesLaw_any Ab As Ar Ah cb cs cr ch x bar ways hist W.heap.size W (hin.with_ (Below.refl _ _) hr hr1 hr2) hh hh1 hh2) fun e W' ⟨he, hb⟩ => ?_
  subst he
  exact ⟨_, rfl, post_later (pv := []) hW' (List.append_nil _).symm (fun _ _ _ => (trodAll_cons_mk (shut_bool Try.underlying4 _) trodAll_mk0))
    (fun sp hsp => args_later kids full rowed hAk hb hsp) (fun _ _ => rfl) (ok_one (by kernel_rfl) rfl (okWide_bool_mk Try.underlying4 _)) hb⟩

theorem over : Rows.heatRangesRow.holds Try.pinned (OpenSpec.ofChange Rows.heatRangesSpec) :=
  OpenClaim.holds_of_wide 4 Try.f4 rfl rfl rfl rfl rfl rfl rfl ⟨rfl, rfl, rfl, rfl, rfl⟩ rfl rfl rfl rfl rfl (by kernel_rfl) Try.func4 (by kernel_rfl)
    (of_decide_eq_true (by kernel_rfl)) (by unfold Func.isWrapper; first | (rw [if_pos (by decide +kernel)]; kernel_rfl) | (rw [if_neg (by decide +kernel)]; exact ⟨rfl, rfl⟩))
    (fun os started H enc _ => lifted os started H enc)

theorem proved : Rows.HeatRangesSaid := over
end Go.Proofs.Ytigpefjeelgfdaa.heatRanges
