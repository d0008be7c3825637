/-
  A part of the texts that the claim builds on: see the last one.
-/
import Derived.Test.YtigpefjeelgfdaaB5
set_option linter.unusedSimpArgs false
set_option linter.unusedVariables false
/-
  Walks of layer 1's statements: which works and ways are too great for a statement.
-/
namespace Go.Proofs.Ytigpefjeelgfdaa
open Go.RowKit

def longB (ks : List Kink) : Bool := decide (20 < ks.length)
def greatB (x : Works) : Bool := decide (10 < x.bars.length) || decide (10 < x.steps.length) || !(x.steps.all fun ws => !decide (8 < ws.length) && ws.all fun ks => !longB ks)

set_option maxHeartbeats 400000 in
theorem long_any (A : Option Addr) (c : Nat) (ks : List Kink) (w : World) (h1 : ks.length ≤ c) (h2 : c ≤ 9223372036854775807) :
    Calls Try.prog 15 #[.agg #[.slice A ks.length c]] w fun e w' => e = .returned (.bool (longB ks)) ∧ Below w.heap.size w w' := by
  by_cases g : 20 < ks.length
  · have R : Hid (longB ks = true) := Lib.hid (by simp [longB, g])
    have g2 : (20 : Int) < (ks.length : Int) := by omega
    go_enter Try.func15, Try.ntmps15
    go_wp2
    go_ret
    exact ⟨ret_bool (by rw [R.out]), (by repeat (first | (with_reducible assumption) | (with_reducible exact Below.refl _ _) | ((with_reducible refine Below.alloc ?_ ?_ _); rotate_left; (focus (first | omega | (simp only [World.size_alloc, World.size_setCell, World.size_drew, World.heap_drewN]; first | done | omega)))) | ((with_reducible refine Below.setCell ?_ ?_ _); rotate_left; (focus (first | omega | (simp only [World.size_alloc, World.size_setCell, World.size_drew, World.heap_drewN]; first | done | omega)))) | (with_reducible refine below_drewN ?_ _) | (with_reducible refine Below.drew ?_) | ((with_reducible refine Below.trans ?_ (Below.mono (by assumption) ?_)); rotate_left; (focus (first | omega | (simp only [World.size_alloc, World.size_setCell, World.size_drew, World.heap_drewN]; first | done | omega))))))⟩
  · have R : Hid (longB ks = false) := Lib.hid (by simp [longB, g])
    have g2 : ¬ (20 : Int) < (ks.length : Int) := by omega
    go_enter Try.func15, Try.ntmps15
    go_wp2
    go_ret
    exact ⟨ret_bool (by rw [R.out]), (by repeat (first | (with_reducible assumption) | (with_reducible exact Below.refl _ _) | ((with_reducible refine Below.alloc ?_ ?_ _); rotate_left; (focus (first | omega | (simp only [World.size_alloc, World.size_setCell, World.size_drew, World.heap_drewN]; first | done | omega)))) | ((with_reducible refine Below.setCell ?_ ?_ _); rotate_left; (focus (first | omega | (simp only [World.size_alloc, World.size_setCell, World.size_drew, World.heap_drewN]; first | done | omega)))) | (with_reducible refine below_drewN ?_ _) | (with_reducible refine Below.drew ?_) | ((with_reducible refine Below.trans ?_ (Below.mono (by assumption) ?_)); rotate_left; (focus (first | omega | (simp only [World.size_alloc, World.size_setCell, World.size_drew, World.heap_drewN]; first | done | omega))))))⟩

/-- Parts of it. -/
theorem greatB_all {x : Works} (h1 : ¬ 10 < x.bars.length) (h2 : ¬ 10 < x.steps.length) (h3 : (x.steps.all fun ws => !decide (8 < ws.length) && ws.all fun ks => !longB ks) = true) : Hid (greatB x = false) := Lib.hid (by simp only [greatB, h1, h2, h3]; rfl)
theorem greatB_some {x : Works} (h3 : (x.steps.all fun ws => !decide (8 < ws.length) && ws.all fun ks => !longB ks) = false) : Hid (greatB x = true) := Lib.hid (by simp only [greatB, h3]; simp)

set_option maxRecDepth 100000 in
set_option maxHeartbeats 4000000 in
theorem great_any (Ab As : Option Addr) (cb cs : Nat) (x : Works) (B : Nat) (w : World) (hbs : RgsA w B Ab x.bars) (hs : StepsA w B As x.steps) (hc : x.steps.length ≤ cs) (hm : cs ≤ 9223372036854775807) (hcb : x.bars.length ≤ cb) (hmb : cb ≤ 9223372036854775807) (hB : B ≤ w.heap.size) :
    Calls Try.prog 14 #[.agg #[.slice Ab x.bars.length cb, .slice As x.steps.length cs]] w fun e w' => e = .returned (.bool (greatB x)) ∧ Below w.heap.size w w' := by
  by_cases q1 : 10 < x.bars.length
  · have R : Hid (greatB x = true) := Lib.hid (by simp [greatB, q1])
    go_enter Try.func14, Try.ntmps14
    go_wp2_with fail
    go_ret
    exact ⟨ret_bool R.out.symm, (by repeat (first | (with_reducible assumption) | (with_reducible exact Below.refl _ _) | ((with_reducible refine Below.alloc ?_ ?_ _); rotate_left; (focus (first | omega | (simp only [World.size_alloc, World.size_setCell, World.size_drew, World.heap_drewN]; first | done | omega)))) | ((with_reducible refine Below.setCell ?_ ?_ _); rotate_left; (focus (first | omega | (simp only [World.size_alloc, World.size_setCell, World.size_drew, World.heap_drewN]; first | done | omega)))) | (with_reducible refine below_drewN ?_ _) | (with_reducible refine Below.drew ?_) | ((with_reducible refine Below.trans ?_ (Below.mono (by assumption) ?_)); rotate_left; (focus (first | omega | (simp only [World.size_alloc, World.size_setCell, World.size_drew, World.heap_drewN]; first | done | omega))))))⟩
  by_cases q2 : 10 < x.steps.length
  · have R : Hid (greatB x = true) := Lib.hid (by simp [greatB, q2])
    go_enter Try.func14, Try.ntmps14
    go_wp2_with fail
    go_ret
    exact ⟨ret_bool R.out.symm, (by repeat (first | (with_reducible assumption) | (with_reducible exact Below.refl _ _) | ((with_reducible refine Below.alloc ?_ ?_ _); rotate_left; (focus (first | omega | (simp only [World.size_alloc, World.size_setCell, World.size_drew, World.heap_drewN]; first | done | omega)))) | ((with_reducible refine Below.setCell ?_ ?_ _); rotate_left; (focus (first | omega | (simp only [World.size_alloc, World.size_setCell, World.size_drew, World.heap_drewN]; first | done | omega)))) | (with_reducible refine below_drewN ?_ _) | (with_reducible refine Below.drew ?_) | ((with_reducible refine Below.trans ?_ (Below.mono (by assumption) ?_)); rotate_left; (focus (first | omega | (simp only [World.size_alloc, World.size_setCell, World.size_drew, World.heap_drewN]; first | done | omega))))))⟩
  go_enter Try.func14, Try.ntmps14
  go_wp2_with fail
  go_loopw [3] (fun i wr => ∃ (k : Nat), k ≤ x.steps.length ∧ i = .int .i64 k ∧ Upto (fun ws => !decide (8 < ws.length) && ws.all fun ks => !longB ks) x.steps k ∧ Below w.heap.size w wr ∧ Box wr w.heap.size 25 #[.slice Ab x.bars.length cb, .slice As x.steps.length cs])
    (fun i _ => x.steps.length - (intOf i).toNat)
  case atStart =>
    refine ⟨0, by omega, rfl, Upto.zero _ _, (by repeat (first | (with_reducible assumption) | (with_reducible exact Below.refl _ _) | ((with_reducible refine Below.alloc ?_ ?_ _); rotate_left; (focus (first | omega | (simp only [World.size_alloc, World.size_setCell, World.size_drew, World.heap_drewN]; first | done | omega)))) | ((with_reducible refine Below.setCell ?_ ?_ _); rotate_left; (focus (first | omega | (simp only [World.size_alloc, World.size_setCell, World.size_drew, World.heap_drewN]; first | done | omega)))) | (with_reducible refine below_drewN ?_ _) | (with_reducible refine Below.drew ?_) | ((with_reducible refine Below.trans ?_ (Below.mono (by assumption) ?_)); rotate_left; (focus (first | omega | (simp only [World.size_alloc, World.size_setCell, World.size_drew, World.heap_drewN]; first | done | omega)))))), ?_⟩
    (refine Box.of_f ?_; repeat (first | ((with_reducible refine BoxF.done (by with_reducible assumption) ?_); rfl) | ((with_reducible refine BoxF.new ?_ ?_); (focus (first | omega | (simp only [World.size_alloc, World.size_setCell, World.size_drew, World.heap_drewN]; first | done | omega))); rfl) | ((with_reducible refine BoxF.alloc ?_ ?_); (focus (first | omega | (simp only [World.size_alloc, World.size_setCell, World.size_drew, World.heap_drewN]; first | done | omega)))) | (with_reducible refine BoxF.set ?_) | ((with_reducible refine BoxF.far ?_ ?_); ((try simp only []); omega)) | (with_reducible refine BoxF.drewN ?_) | (with_reducible refine BoxF.drew ?_) | ((with_reducible refine BoxF.below (by with_reducible assumption) ?_ ?_); (focus (first | omega | (simp only [World.size_alloc, World.size_setCell, World.size_drew, World.heap_drewN]; first | done | omega))))))
  case round =>
    obtain ⟨k, hk, rfl, hup, hbl, bw⟩ := hrel
    obtain ⟨u1, u2, u3, u4⟩ := bw.two
    have hz := bw.lt
    by_cases hlt : k < x.steps.length
    · obtain ⟨b, off, A', c', ws, rfl, hb, hx, d0, l1, l2, hws⟩ := stepsA hs hlt
      have d1 := (hbl.cell (p := ⟨b, off + k, none⟩) (by simp only []; omega)).trans d0
      have hbr : b < wr.heap.size := by omega
      by_cases p1 : 8 < ws.length
      · have R : Hid (greatB x = true) := greatB_some (Upto.fail hx (by simp [p1]))
        clear d0
        go_wp2_with fail
        go_ret
        exact ⟨ret_bool R.out.symm, (by repeat (first | (with_reducible assumption) | (with_reducible exact Below.refl _ _) | ((with_reducible refine Below.alloc ?_ ?_ _); rotate_left; (focus (first | omega | (simp only [World.size_alloc, World.size_setCell, World.size_drew, World.heap_drewN]; first | done | omega)))) | ((with_reducible refine Below.setCell ?_ ?_ _); rotate_left; (focus (first | omega | (simp only [World.size_alloc, World.size_setCell, World.size_drew, World.heap_drewN]; first | done | omega)))) | (with_reducible refine below_drewN ?_ _) | (with_reducible refine Below.drew ?_) | ((with_reducible refine Below.trans ?_ (Below.mono (by assumption) ?_)); rotate_left; (focus (first | omega | (simp only [World.size_alloc, World.size_setCell, World.size_drew, World.heap_drewN]; first | done | omega))))))⟩
      go_wp2_with fail
      obtain ⟨wp, rfl⟩ : ∃ wp : World, wp = wr := ⟨_, rfl⟩
      go_loopw [4] (fun i wr => ∃ (m : Nat), m ≤ ws.length ∧ i = .int .i64 m ∧ Upto (fun ks => !longB ks) ws m ∧ Below w.heap.size w wr ∧ Box wr w.heap.size 25 #[.slice Ab x.bars.length cb, .slice (some ⟨b, off, none⟩) x.steps.length cs])
        (fun i _ => ws.length - (intOf i).toNat)
      case atStart =>
        refine ⟨0, by omega, rfl, Upto.zero _ _, (by repeat (first | (with_reducible assumption) | (with_reducible exact Below.refl _ _) | ((with_reducible refine Below.alloc ?_ ?_ _); rotate_left; (focus (first | omega | (simp only [World.size_alloc, World.size_setCell, World.size_drew, World.heap_drewN]; first | done | omega)))) | ((with_reducible refine Below.setCell ?_ ?_ _); rotate_left; (focus (first | omega | (simp only [World.size_alloc, World.size_setCell, World.size_drew, World.heap_drewN]; first | done | omega)))) | (with_reducible refine below_drewN ?_ _) | (with_reducible refine Below.drew ?_) | ((with_reducible refine Below.trans ?_ (Below.mono (by assumption) ?_)); rotate_left; (focus (first | omega | (simp only [World.size_alloc, World.size_setCell, World.size_drew, World.heap_drewN]; first | done | omega)))))), ?_⟩
        (refine Box.of_f ?_; repeat (first | ((with_reducible refine BoxF.done (by with_reducible assumption) ?_); rfl) | ((with_reducible refine BoxF.new ?_ ?_); (focus (first | omega | (simp only [World.size_alloc, World.size_setCell, World.size_drew, World.heap_drewN]; first | done | omega))); rfl) | ((with_reducible refine BoxF.alloc ?_ ?_); (focus (first | omega | (simp only [World.size_alloc, World.size_setCell, World.size_drew, World.heap_drewN]; first | done | omega)))) | (with_reducible refine BoxF.set ?_) | ((with_reducible refine BoxF.far ?_ ?_); ((try simp only []); omega)) | (with_reducible refine BoxF.drewN ?_) | (with_reducible refine BoxF.drew ?_) | ((with_reducible refine BoxF.below (by with_reducible assumption) ?_ ?_); (focus (first | omega | (simp only [World.size_alloc, World.size_setCell, World.size_drew, World.heap_drewN]; first | done | omega))))))
      case round =>
        obtain ⟨m, hm', rfl, hup2, hbl2, bw2⟩ := hrel
        obtain ⟨u1, u2, u3, u4⟩ := bw2.two
        have hz2 := bw2.lt
        have d1 := (hbl2.cell (p := ⟨b, off + k, none⟩) (by simp only []; omega)).trans d0
        have hbr : b < wr.heap.size := by omega
        by_cases hlt2 : m < ws.length
        · obtain ⟨b2, off2, A2, c2, ks, rfl, hb2, hx2, e0, l3, l4, hks⟩ := waysA hws hlt2
          have e1 := (hbl2.cell (p := ⟨b2, off2 + m, none⟩) (by simp only []; omega)).trans e0
          have hbr2 : b2 < wr.heap.size := by omega
          cases g : longB ks
          · have G := Lib.hid g
            clear g
            go_wp2_with (go_at_call 15; refine (long_any _ _ ks _ l3 l4).mono ?_; rintro e w2 ⟨rfl, hb2⟩; rw [G.out]; obtain ⟨_hr1, _hr2⟩ := below_reads hb2; have _hz := Below.size hb2; (try simp only [World.size_alloc, World.size_setCell, World.size_drew, World.heap_drewN] at _hz))
            go_roundw
            case rel =>
              refine ⟨m + 1, by omega, by go_num, hup2.succ hx2 (by simp [G.out]), (by repeat (first | (with_reducible assumption) | (with_reducible exact Below.refl _ _) | ((with_reducible refine Below.alloc ?_ ?_ _); rotate_left; (focus (first | omega | (simp only [World.size_alloc, World.size_setCell, World.size_drew, World.heap_drewN]; first | done | omega)))) | ((with_reducible refine Below.setCell ?_ ?_ _); rotate_left; (focus (first | omega | (simp only [World.size_alloc, World.size_setCell, World.size_drew, World.heap_drewN]; first | done | omega)))) | (with_reducible refine below_drewN ?_ _) | (with_reducible refine Below.drew ?_) | ((with_reducible refine Below.trans ?_ (Below.mono (by assumption) ?_)); rotate_left; (focus (first | omega | (simp only [World.size_alloc, World.size_setCell, World.size_drew, World.heap_drewN]; first | done | omega)))))), ?_⟩
              (refine Box.of_f ?_; repeat (first | ((with_reducible refine BoxF.done (by with_reducible assumption) ?_); rfl) | ((with_reducible refine BoxF.new ?_ ?_); (focus (first | omega | (simp only [World.size_alloc, World.size_setCell, World.size_drew, World.heap_drewN]; first | done | omega))); rfl) | ((with_reducible refine BoxF.alloc ?_ ?_); (focus (first | omega | (simp only [World.size_alloc, World.size_setCell, World.size_drew, World.heap_drewN]; first | done | omega)))) | (with_reducible refine BoxF.set ?_) | ((with_reducible refine BoxF.far ?_ ?_); ((try simp only []); omega)) | (with_reducible refine BoxF.drewN ?_) | (with_reducible refine BoxF.drew ?_) | ((with_reducible refine BoxF.below (by with_reducible assumption) ?_ ?_); (focus (first | omega | (simp only [World.size_alloc, World.size_setCell, World.size_drew, World.heap_drewN]; first | done | omega))))))
            case measure => simp [intOf]; omega
          · have R : Hid (greatB x = true) := greatB_some (Upto.fail hx (by rw [Bool.and_eq_false_iff]; right; exact Upto.fail hx2 (by rw [g]; rfl)))
            have G := Lib.hid g
            clear g
            go_wp2_with (go_at_call 15; refine (long_any _ _ ks _ l3 l4).mono ?_; rintro e w2 ⟨rfl, hb2⟩; rw [G.out]; obtain ⟨_hr1, _hr2⟩ := below_reads hb2; have _hz := Below.size hb2; (try simp only [World.size_alloc, World.size_setCell, World.size_drew, World.heap_drewN] at _hz))
            go_ret
            exact ⟨ret_bool R.out.symm, (by repeat (first | (with_reducible assumption) | (with_reducible exact Below.refl _ _) | ((with_reducible refine Below.alloc ?_ ?_ _); rotate_left; (focus (first | omega | (simp only [World.size_alloc, World.size_setCell, World.size_drew, World.heap_drewN]; first | done | omega)))) | ((with_reducible refine Below.setCell ?_ ?_ _); rotate_left; (focus (first | omega | (simp only [World.size_alloc, World.size_setCell, World.size_drew, World.heap_drewN]; first | done | omega)))) | (with_reducible refine below_drewN ?_ _) | (with_reducible refine Below.drew ?_) | ((with_reducible refine Below.trans ?_ (Below.mono (by assumption) ?_)); rotate_left; (focus (first | omega | (simp only [World.size_alloc, World.size_setCell, World.size_drew, World.heap_drewN]; first | done | omega))))))⟩
        · have ok : (!decide (8 < ws.length) && ws.all fun ks => !longB ks) = true := by
            rw [hup2.done (by omega)]
            simp [p1]
          have OK := Lib.hid ok
          clear ok hup2
          go_wp2_with fail
          go_roundw
          case rel =>
            refine ⟨k + 1, by omega, by go_num, hup.succ hx OK.out, (by repeat (first | (with_reducible assumption) | (with_reducible exact Below.refl _ _) | ((with_reducible refine Below.alloc ?_ ?_ _); rotate_left; (focus (first | omega | (simp only [World.size_alloc, World.size_setCell, World.size_drew, World.heap_drewN]; first | done | omega)))) | ((with_reducible refine Below.setCell ?_ ?_ _); rotate_left; (focus (first | omega | (simp only [World.size_alloc, World.size_setCell, World.size_drew, World.heap_drewN]; first | done | omega)))) | (with_reducible refine below_drewN ?_ _) | (with_reducible refine Below.drew ?_) | ((with_reducible refine Below.trans ?_ (Below.mono (by assumption) ?_)); rotate_left; (focus (first | omega | (simp only [World.size_alloc, World.size_setCell, World.size_drew, World.heap_drewN]; first | done | omega)))))), ?_⟩
            (refine Box.of_f ?_; repeat (first | ((with_reducible refine BoxF.done (by with_reducible assumption) ?_); rfl) | ((with_reducible refine BoxF.new ?_ ?_); (focus (first | omega | (simp only [World.size_alloc, World.size_setCell, World.size_drew, World.heap_drewN]; first | done | omega))); rfl) | ((with_reducible refine BoxF.alloc ?_ ?_); (focus (first | omega | (simp only [World.size_alloc, World.size_setCell, World.size_drew, World.heap_drewN]; first | done | omega)))) | (with_reducible refine BoxF.set ?_) | ((with_reducible refine BoxF.far ?_ ?_); ((try simp only []); omega)) | (with_reducible refine BoxF.drewN ?_) | (with_reducible refine BoxF.drew ?_) | ((with_reducible refine BoxF.below (by with_reducible assumption) ?_ ?_); (focus (first | omega | (simp only [World.size_alloc, World.size_setCell, World.size_drew, World.heap_drewN]; first | done | omega))))))
          case measure => simp [intOf]; omega
    · have R : Hid (greatB x = false) := greatB_all q1 q2 (hup.done (by omega))
      clear hup
      go_wp2_with fail
      go_ret
      exact ⟨ret_bool R.out.symm, (by repeat (first | (with_reducible assumption) | (with_reducible exact Below.refl _ _) | ((with_reducible refine Below.alloc ?_ ?_ _); rotate_left; (focus (first | omega | (simp only [World.size_alloc, World.size_setCell, World.size_drew, World.heap_drewN]; first | done | omega)))) | ((with_reducible refine Below.setCell ?_ ?_ _); rotate_left; (focus (first | omega | (simp only [World.size_alloc, World.size_setCell, World.size_drew, World.heap_drewN]; first | done | omega)))) | (with_reducible refine below_drewN ?_ _) | (with_reducible refine Below.drew ?_) | ((with_reducible refine Below.trans ?_ (Below.mono (by assumption) ?_)); rotate_left; (focus (first | omega | (simp only [World.size_alloc, World.size_setCell, World.size_drew, World.heap_drewN]; first | done | omega))))))⟩
end Go.Proofs.Ytigpefjeelgfdaa

/-
  Walks of layer 1's statements: HeatWays.
-/
namespace Go.Proofs.Ytigpefjeelgfdaa
open Go.RowKit

theorem aftV_cases (ks : List Kink) (hard : Int) : ∃ lo hi er : Int, aftV ks hard = .tuple #[.agg #[.int .i64 lo, .int .i64 hi], .int .i64 er] := by
  unfold aftV
  split
  · split
    · exact ⟨_, _, _, rfl⟩
    · exact ⟨_, _, _, rfl⟩
  · exact ⟨_, _, _, rfl⟩
/-- What is laid beside it is as it was. -/
theorem box_cells2 {W : World} {g : Nat} {t : TypeId} {a b : Value} (h : Box W g t #[a, b]) : Hid (∀ V, Below W.heap.size W V → V.cell? ⟨g, 0, none⟩ = some a ∧ V.cell? ⟨g, 0 + 1, none⟩ = some b) :=
  Lib.hid fun V hV => ⟨(Box.below h hV h.lt).cell 0, (Box.below h hV h.lt).cell 1⟩
theorem box_cells1 {W : World} {g : Nat} {t : TypeId} {a : Value} (h : Box W g t #[a]) : Hid (∀ V, Below W.heap.size W V → V.cell? ⟨g, 0, none⟩ = some a) :=
  Lib.hid fun V hV => (Box.below h hV h.lt).cell 0

set_option maxRecDepth 100000 in
set_option maxHeartbeats 4000000 in
theorem waysLaw_any (Ab As Ak : Option Addr) (cb cs ck : Nat) (x : Works) (ks : List Kink) (hard : Int) (B : Nat) (w : World) (hbs : RgsA w B Ab x.bars) (hs : StepsA w B As x.steps) (hc : x.steps.length ≤ cs) (hm : cs ≤ 9223372036854775807) (hcb : x.bars.length ≤ cb) (hmb : cb ≤ 9223372036854775807)
    (hk : KinksA w B Ak ks) (hck : ks.length ≤ ck) (hmk : ck ≤ 9223372036854775807) (hB : B ≤ w.heap.size) :
    Calls Try.prog 3 #[.agg #[.slice Ab x.bars.length cb, .slice As x.steps.length cs], .agg #[.slice Ak ks.length ck], .int .i64 hard] w fun e w' => e = .returned (.bool true) ∧ Below w.heap.size w w' := by
  have hgr : ∀ W : World, Below w.heap.size w W → Calls Try.prog 14 #[.agg #[.slice Ab x.bars.length cb, .slice As x.steps.length cs]] W fun e w' => e = .returned (.bool (greatB x)) ∧ Below W.heap.size W w' :=
    fun W hW => great_any Ab As cb cs x B W (rgs_on hbs hW hB) (steps_on hs hW hB) hc hm hcb hmb (Nat.le_trans hB hW.size)
  have HG := Lib.hid hgr
  have hlo : ∀ W : World, Below w.heap.size w W → Calls Try.prog 15 #[.agg #[.slice Ak ks.length ck]] W fun e w' => e = .returned (.bool (longB ks)) ∧ Below W.heap.size W w' := fun W _ => long_any Ak ck ks W hck hmk
  have HL := Lib.hid hlo
  have ha1 : ∀ W : World, Below w.heap.size w W → Calls Try.prog 17 #[.agg #[.slice Ak ks.length ck], .int .i64 hard] W fun e w' => e = .returned (aftV ks hard) ∧ Below W.heap.size W w' := fun W hW => heatAfterX_any Ak ck ks hard B W (kinks_on hk hW hB) hck hmk (Nat.le_trans hB hW.size)
  have HA1 := Lib.hid ha1
  have ha2 : ∀ W : World, Below w.heap.size w W → Calls Try.prog 18 #[.agg #[.slice Ak ks.length ck], .int .i64 hard] W fun e w' => e = .returned (aftV ks hard) ∧ Below W.heap.size W w' := fun W hW => refAfterX_any Ak ck ks hard B W (kinks_on hk hW hB) hck hmk (Nat.le_trans hB hW.size)
  have HA2 := Lib.hid ha2
  have hy1 : ∀ W : World, Below w.heap.size w W → Calls Try.prog 19 #[.agg #[.slice Ak ks.length ck]] W fun e w' => e = .returned (.int .i64 (wayErr ks)) ∧ Below W.heap.size W w' := fun W hW => heatCheckWay_any Ak ck ks B W (kinks_on hk hW hB) hck hmk (Nat.le_trans hB hW.size)
  have HY1 := Lib.hid hy1
  have hy2 : ∀ W : World, Below w.heap.size w W → Calls Try.prog 20 #[.agg #[.slice Ak ks.length ck]] W fun e w' => e = .returned (.int .i64 (wayErr ks)) ∧ Below W.heap.size W w' := fun W hW => refCheckWay_any Ak ck ks B W (kinks_on hk hW hB) hck hmk (Nat.le_trans hB hW.size)
  have HY2 := Lib.hid hy2
  have hw1 : ∀ W : World, Below w.heap.size w W → Calls Try.prog 21 #[.agg #[.slice Ab x.bars.length cb, .slice As x.steps.length cs]] W fun e w' => e = .returned (.int .i64 (worksErr x)) ∧ Below W.heap.size W w' :=
    fun W hW => heatCheckWorks_any Ab As cb cs x B W (rgs_on hbs hW hB) (steps_on hs hW hB) hc hm hcb hmb (Nat.le_trans hB hW.size)
  have HW1 := Lib.hid hw1
  have hw2 : ∀ W : World, Below w.heap.size w W → Calls Try.prog 22 #[.agg #[.slice Ab x.bars.length cb, .slice As x.steps.length cs]] W fun e w' => e = .returned (.int .i64 (worksErr x)) ∧ Below W.heap.size W w' :=
    fun W hW => refCheckWorks_any Ab As cb cs x B W (rgs_on hbs hW hB) (steps_on hs hW hB) hc hm hcb hmb (Nat.le_trans hB hW.size)
  have HW2 := Lib.hid hw2
  obtain ⟨lo, hi, er, hae⟩ := aftV_cases ks hard
  have AE := Lib.hid hae
  clear hgr hlo ha1 ha2 hy1 hy2 hw1 hw2 hae hbs hs hk
  have hlen : ∀ n : Nat, n ≤ n := fun n => Nat.le_refl n
  clear hlen
  generalize x.bars.length = nb at *
  generalize x.steps.length = ns at *
  generalize hkl : ks.length = nk at *
  clear hkl
  cases hg : greatB x
  · have G := Lib.hid hg
    clear hg
    cases hl : longB ks
    · have L := Lib.hid hl
      clear hl
      go_enter Try.func3, Try.ntmps3
      go_wp2_with (first
        | (go_at_call 14; refine (HG.out _ (by repeat (first | (with_reducible assumption) | (with_reducible exact Below.refl _ _) | ((with_reducible refine Below.alloc ?_ ?_ _); rotate_left; (focus (first | omega | (simp only [World.size_alloc, World.size_setCell, World.size_drew, World.heap_drewN]; first | done | omega)))) | ((with_reducible refine Below.setCell ?_ ?_ _); rotate_left; (focus (first | omega | (simp only [World.size_alloc, World.size_setCell, World.size_drew, World.heap_drewN]; first | done | omega)))) | (with_reducible refine below_drewN ?_ _) | (with_reducible refine Below.drew ?_) | ((with_reducible refine Below.trans ?_ (Below.mono (by assumption) ?_)); rotate_left; (focus (first | omega | (simp only [World.size_alloc, World.size_setCell, World.size_drew, World.heap_drewN]; first | done | omega))))))).mono ?_; rintro e w1 ⟨rfl, hb1⟩; rw [G.out]; obtain ⟨_hr1, _hr2⟩ := below_reads hb1; have _hz := Below.size hb1; (try simp only [World.size_alloc, World.size_setCell, World.size_drew, World.heap_drewN] at _hz); obtain ⟨_hr3, _hr4⟩ := below_reads (show Below w.heap.size w w1 from (by repeat (first | (with_reducible assumption) | (with_reducible exact Below.refl _ _) | ((with_reducible refine Below.alloc ?_ ?_ _); rotate_left; (focus (first | omega | (simp only [World.size_alloc, World.size_setCell, World.size_drew, World.heap_drewN]; first | done | omega)))) | ((with_reducible refine Below.setCell ?_ ?_ _); rotate_left; (focus (first | omega | (simp only [World.size_alloc, World.size_setCell, World.size_drew, World.heap_drewN]; first | done | omega)))) | (with_reducible refine below_drewN ?_ _) | (with_reducible refine Below.drew ?_) | ((with_reducible refine Below.trans ?_ (Below.mono (by assumption) ?_)); rotate_left; (focus (first | omega | (simp only [World.size_alloc, World.size_setCell, World.size_drew, World.heap_drewN]; first | done | omega))))))); have _q0 : w.heap.size < w1.heap.size := (by omega); have _q1 : w.heap.size + 1 < w1.heap.size := (by omega))
        | (go_at_call 15; refine (HL.out _ (by repeat (first | (with_reducible assumption) | (with_reducible exact Below.refl _ _) | ((with_reducible refine Below.alloc ?_ ?_ _); rotate_left; (focus (first | omega | (simp only [World.size_alloc, World.size_setCell, World.size_drew, World.heap_drewN]; first | done | omega)))) | ((with_reducible refine Below.setCell ?_ ?_ _); rotate_left; (focus (first | omega | (simp only [World.size_alloc, World.size_setCell, World.size_drew, World.heap_drewN]; first | done | omega)))) | (with_reducible refine below_drewN ?_ _) | (with_reducible refine Below.drew ?_) | ((with_reducible refine Below.trans ?_ (Below.mono (by assumption) ?_)); rotate_left; (focus (first | omega | (simp only [World.size_alloc, World.size_setCell, World.size_drew, World.heap_drewN]; first | done | omega))))))).mono ?_; rintro e w2 ⟨rfl, hb2⟩; rw [L.out]; obtain ⟨_hr1, _hr2⟩ := below_reads hb2; have _hz := Below.size hb2; (try simp only [World.size_alloc, World.size_setCell, World.size_drew, World.heap_drewN] at _hz); obtain ⟨_hr3, _hr4⟩ := below_reads (show Below w.heap.size w w2 from (by repeat (first | (with_reducible assumption) | (with_reducible exact Below.refl _ _) | ((with_reducible refine Below.alloc ?_ ?_ _); rotate_left; (focus (first | omega | (simp only [World.size_alloc, World.size_setCell, World.size_drew, World.heap_drewN]; first | done | omega)))) | ((with_reducible refine Below.setCell ?_ ?_ _); rotate_left; (focus (first | omega | (simp only [World.size_alloc, World.size_setCell, World.size_drew, World.heap_drewN]; first | done | omega)))) | (with_reducible refine below_drewN ?_ _) | (with_reducible refine Below.drew ?_) | ((with_reducible refine Below.trans ?_ (Below.mono (by assumption) ?_)); rotate_left; (focus (first | omega | (simp only [World.size_alloc, World.size_setCell, World.size_drew, World.heap_drewN]; first | done | omega))))))); have _q0 : w.heap.size < w2.heap.size := (by omega); have _q1 : w.heap.size + 1 < w2.heap.size := (by omega))
        | (go_at_call 17; refine (HA1.out _ (by repeat (first | (with_reducible assumption) | (with_reducible exact Below.refl _ _) | ((with_reducible refine Below.alloc ?_ ?_ _); rotate_left; (focus (first | omega | (simp only [World.size_alloc, World.size_setCell, World.size_drew, World.heap_drewN]; first | done | omega)))) | ((with_reducible refine Below.setCell ?_ ?_ _); rotate_left; (focus (first | omega | (simp only [World.size_alloc, World.size_setCell, World.size_drew, World.heap_drewN]; first | done | omega)))) | (with_reducible refine below_drewN ?_ _) | (with_reducible refine Below.drew ?_) | ((with_reducible refine Below.trans ?_ (Below.mono (by assumption) ?_)); rotate_left; (focus (first | omega | (simp only [World.size_alloc, World.size_setCell, World.size_drew, World.heap_drewN]; first | done | omega))))))).mono ?_; rintro e w3 ⟨rfl, hb3⟩; rw [AE.out]; obtain ⟨_hr1, _hr2⟩ := below_reads hb3; have _hz := Below.size hb3; (try simp only [World.size_alloc, World.size_setCell, World.size_drew, World.heap_drewN] at _hz); obtain ⟨_hr3, _hr4⟩ := below_reads (show Below w.heap.size w w3 from (by repeat (first | (with_reducible assumption) | (with_reducible exact Below.refl _ _) | ((with_reducible refine Below.alloc ?_ ?_ _); rotate_left; (focus (first | omega | (simp only [World.size_alloc, World.size_setCell, World.size_drew, World.heap_drewN]; first | done | omega)))) | ((with_reducible refine Below.setCell ?_ ?_ _); rotate_left; (focus (first | omega | (simp only [World.size_alloc, World.size_setCell, World.size_drew, World.heap_drewN]; first | done | omega)))) | (with_reducible refine below_drewN ?_ _) | (with_reducible refine Below.drew ?_) | ((with_reducible refine Below.trans ?_ (Below.mono (by assumption) ?_)); rotate_left; (focus (first | omega | (simp only [World.size_alloc, World.size_setCell, World.size_drew, World.heap_drewN]; first | done | omega))))))); have _q0 : w.heap.size < w3.heap.size := (by omega); have _q1 : w.heap.size + 1 < w3.heap.size := (by omega))
        | (go_at_call 18; refine (HA2.out _ (by repeat (first | (with_reducible assumption) | (with_reducible exact Below.refl _ _) | ((with_reducible refine Below.alloc ?_ ?_ _); rotate_left; (focus (first | omega | (simp only [World.size_alloc, World.size_setCell, World.size_drew, World.heap_drewN]; first | done | omega)))) | ((with_reducible refine Below.setCell ?_ ?_ _); rotate_left; (focus (first | omega | (simp only [World.size_alloc, World.size_setCell, World.size_drew, World.heap_drewN]; first | done | omega)))) | (with_reducible refine below_drewN ?_ _) | (with_reducible refine Below.drew ?_) | ((with_reducible refine Below.trans ?_ (Below.mono (by assumption) ?_)); rotate_left; (focus (first | omega | (simp only [World.size_alloc, World.size_setCell, World.size_drew, World.heap_drewN]; first | done | omega))))))).mono ?_; rintro e w4 ⟨rfl, hb4⟩; rw [AE.out]; obtain ⟨_hr1, _hr2⟩ := below_reads hb4; have _hz := Below.size hb4; (try simp only [World.size_alloc, World.size_setCell, World.size_drew, World.heap_drewN] at _hz); obtain ⟨_hr3, _hr4⟩ := below_reads (show Below w.heap.size w w4 from (by repeat (first | (with_reducible assumption) | (with_reducible exact Below.refl _ _) | ((with_reducible refine Below.alloc ?_ ?_ _); rotate_left; (focus (first | omega | (simp only [World.size_alloc, World.size_setCell, World.size_drew, World.heap_drewN]; first | done | omega)))) | ((with_reducible refine Below.setCell ?_ ?_ _); rotate_left; (focus (first | omega | (simp only [World.size_alloc, World.size_setCell, World.size_drew, World.heap_drewN]; first | done | omega)))) | (with_reducible refine below_drewN ?_ _) | (with_reducible refine Below.drew ?_) | ((with_reducible refine Below.trans ?_ (Below.mono (by assumption) ?_)); rotate_left; (focus (first | omega | (simp only [World.size_alloc, World.size_setCell, World.size_drew, World.heap_drewN]; first | done | omega))))))); have _q0 : w.heap.size < w4.heap.size := (by omega); have _q1 : w.heap.size + 1 < w4.heap.size := (by omega)))
      have hW : Below w.heap.size w (w4.alloc (.cells #[.int .i64 lo, .int .i64 hi] 33)) := (by repeat (first | (with_reducible assumption) | (with_reducible exact Below.refl _ _) | ((with_reducible refine Below.alloc ?_ ?_ _); rotate_left; (focus (first | omega | (simp only [World.size_alloc, World.size_setCell, World.size_drew, World.heap_drewN]; first | done | omega)))) | ((with_reducible refine Below.setCell ?_ ?_ _); rotate_left; (focus (first | omega | (simp only [World.size_alloc, World.size_setCell, World.size_drew, World.heap_drewN]; first | done | omega)))) | (with_reducible refine below_drewN ?_ _) | (with_reducible refine Below.drew ?_) | ((with_reducible refine Below.trans ?_ (Below.mono (by assumption) ?_)); rotate_left; (focus (first | omega | (simp only [World.size_alloc, World.size_setCell, World.size_drew, World.heap_drewN]; first | done | omega))))))
      have z1 := hb1.size
      have z2 := hb2.size
      have z3 := hb3.size
      have z4 := hb4.size
      simp only [World.size_alloc] at z1 z2 z3 z4
      have B3 : Box (w4.alloc (.cells #[.int .i64 lo, .int .i64 hi] 33)) w.heap.size 25 #[.slice Ab nb cb, .slice As ns cs] := by (refine Box.of_f ?_; repeat (first | ((with_reducible refine BoxF.done (by with_reducible assumption) ?_); rfl) | ((with_reducible refine BoxF.new ?_ ?_); (focus (first | omega | (simp only [World.size_alloc, World.size_setCell, World.size_drew, World.heap_drewN]; first | done | omega))); rfl) | ((with_reducible refine BoxF.alloc ?_ ?_); (focus (first | omega | (simp only [World.size_alloc, World.size_setCell, World.size_drew, World.heap_drewN]; first | done | omega)))) | (with_reducible refine BoxF.set ?_) | ((with_reducible refine BoxF.far ?_ ?_); ((try simp only []); omega)) | (with_reducible refine BoxF.drewN ?_) | (with_reducible refine BoxF.drew ?_) | ((with_reducible refine BoxF.below (by with_reducible assumption) ?_ ?_); (focus (first | omega | (simp only [World.size_alloc, World.size_setCell, World.size_drew, World.heap_drewN]; first | done | omega))))))
      have B4 : Box (w4.alloc (.cells #[.int .i64 lo, .int .i64 hi] 33)) (w.heap.size + 1) 28 #[.slice Ak nk ck] := by (refine Box.of_f ?_; repeat (first | ((with_reducible refine BoxF.done (by with_reducible assumption) ?_); rfl) | ((with_reducible refine BoxF.new ?_ ?_); (focus (first | omega | (simp only [World.size_alloc, World.size_setCell, World.size_drew, World.heap_drewN]; first | done | omega))); rfl) | ((with_reducible refine BoxF.alloc ?_ ?_); (focus (first | omega | (simp only [World.size_alloc, World.size_setCell, World.size_drew, World.heap_drewN]; first | done | omega)))) | (with_reducible refine BoxF.set ?_) | ((with_reducible refine BoxF.far ?_ ?_); ((try simp only []); omega)) | (with_reducible refine BoxF.drewN ?_) | (with_reducible refine BoxF.drew ?_) | ((with_reducible refine BoxF.below (by with_reducible assumption) ?_ ?_); (focus (first | omega | (simp only [World.size_alloc, World.size_setCell, World.size_drew, World.heap_drewN]; first | done | omega))))))
      have B7 : Box (w4.alloc (.cells #[.int .i64 lo, .int .i64 hi] 33)) w3.heap.size 33 #[.int .i64 lo, .int .i64 hi] := by (refine Box.of_f ?_; repeat (first | ((with_reducible refine BoxF.done (by with_reducible assumption) ?_); rfl) | ((with_reducible refine BoxF.new ?_ ?_); (focus (first | omega | (simp only [World.size_alloc, World.size_setCell, World.size_drew, World.heap_drewN]; first | done | omega))); rfl) | ((with_reducible refine BoxF.alloc ?_ ?_); (focus (first | omega | (simp only [World.size_alloc, World.size_setCell, World.size_drew, World.heap_drewN]; first | done | omega)))) | (with_reducible refine BoxF.set ?_) | ((with_reducible refine BoxF.far ?_ ?_); ((try simp only []); omega)) | (with_reducible refine BoxF.drewN ?_) | (with_reducible refine BoxF.drew ?_) | ((with_reducible refine BoxF.below (by with_reducible assumption) ?_ ?_); (focus (first | omega | (simp only [World.size_alloc, World.size_setCell, World.size_drew, World.heap_drewN]; first | done | omega))))))
      have B9 : Box (w4.alloc (.cells #[.int .i64 lo, .int .i64 hi] 33)) w4.heap.size 33 #[.int .i64 lo, .int .i64 hi] := Box.new _ _ _
      generalize w4.alloc (.cells #[.int .i64 lo, .int .i64 hi] 33) = W at hW B3 B4 B7 B9 ⊢
      have H3 := box_cells2 B3
      have H4 := box_cells1 B4
      have H7 := box_cells2 B7
      have H9 := box_cells2 B9
      generalize w3.heap.size = t7 at H7 ⊢
      generalize w4.heap.size = t9 at H9 ⊢
      have h0 : ∀ V, Below W.heap.size W V → Below w.heap.size w V := fun V hV => hW.trans (hV.mono hW.size)
      have H0 := Lib.hid h0
      have g2 : Below W.heap.size W W := Below.refl _ _
      -- region 5
      refine wp_region_facts (F := ?_) [Fact.eq (.agg #[.slice Ak nk ck]), Fact.eq (.int .i64 (wayErr ks)), Fact.eq (.agg #[.slice Ak nk ck]), Fact.eq (.int .i64 (wayErr ks)), Fact.eq (.bool true), Fact.eq (.bool true), Fact.eq (.agg #[.slice Ab nb cb, .slice As ns cs]), Fact.eq (.int .i64 (worksErr x)), Fact.eq (.agg #[.slice Ab nb cb, .slice As ns cs]), Fact.eq (.int .i64 (worksErr x)), Fact.eq (.bool true), Fact.eq (.bool true), Fact.eq (.bool true), Fact.eq (.agg #[.int .i64 lo, .int .i64 hi]), Fact.eq (.agg #[.int .i64 lo, .int .i64 hi]), Fact.eq (.bool true), Fact.eq (.bool true), Fact.eq (.bool true), Fact.eq (.int .i64 er), Fact.eq (.int .i64 er), Fact.eq (.bool true), Fact.eq (.bool true), Fact.eq (.bool true), Fact.eq (.bool true), Fact.eq (.bool true), Fact.eq (.bool true)] (by kernel_rfl) (by kernel_rfl) (by kernel_rfl) (by intro x; simp only [List.map_cons, List.map_nil, putAll, Act.put, List.setIfInBounds_toArray, List.set_cons_zero, List.set_cons_succ, Nat.zero_add, Nat.reduceAdd]; rfl) ?_ ?_
      · refine StepsF.cons (fun x V hV hp K hK => ?_) ?_
        · have _c0 := H4.out V (g2.trans (hV.mono g2.size))
          go_simp
          exact hK.out _ _ rfl (Below.refl _ _)
        refine StepsF.cons (fun x V hV hp K hK => ?_) ?_
        · have _e := depsAll_get hp 0 (by kernel_rfl); change x 0 = _ at _e; generalize x 0 = _y at _e hK ⊢; subst _e
          go_simp
          refine Calls.mono (HY1.out V (H0.out V (g2.trans (hV.mono g2.size)))) ?_
          rintro e v1 ⟨rfl, hb⟩
          exact hK.out _ _ rfl hb
        refine StepsF.cons (fun x V hV hp K hK => ?_) ?_
        · have _c0 := H4.out V (g2.trans (hV.mono g2.size))
          go_simp
          exact hK.out _ _ rfl (Below.refl _ _)
        refine StepsF.cons (fun x V hV hp K hK => ?_) ?_
        · have _e := depsAll_get hp 2 (by kernel_rfl); change x 2 = _ at _e; generalize x 2 = _y at _e hK ⊢; subst _e
          go_simp
          refine Calls.mono (HY2.out V (H0.out V (g2.trans (hV.mono g2.size)))) ?_
          rintro e v1 ⟨rfl, hb⟩
          exact hK.out _ _ rfl hb
        refine StepsF.cons (fun x V hV hp K hK => ?_) ?_
        · have _e := depsAll_get hp 1 (by kernel_rfl); change x 1 = _ at _e; generalize x 1 = _y at _e hK ⊢; subst _e
          have _e := depsAll_get hp 3 (by kernel_rfl); change x 3 = _ at _e; generalize x 3 = _y at _e hK ⊢; subst _e
          go_simp
          exact hK.out _ _ rfl (Below.refl _ _)
        refine StepsF.cons (fun x V hV hp K hK => ?_) ?_
        · have _e := depsAll_get hp 4 (by kernel_rfl); change x 4 = _ at _e; generalize x 4 = _y at _e hK ⊢; subst _e
          go_simp
          exact hK.out _ _ rfl (Below.refl _ _)
        refine StepsF.cons (fun x V hV hp K hK => ?_) ?_
        · have _e := depsAll_get hp 5 (by kernel_rfl); change x 5 = _ at _e; generalize x 5 = _y at _e hK ⊢; subst _e
          obtain ⟨_c0, _c1⟩ := H3.out V (g2.trans (hV.mono g2.size))
          go_simp
          exact hK.out _ _ rfl (Below.refl _ _)
        refine StepsF.cons (fun x V hV hp K hK => ?_) ?_
        · have _e := depsAll_get hp 5 (by kernel_rfl); change x 5 = _ at _e; generalize x 5 = _y at _e hK ⊢; subst _e
          have _e := depsAll_get hp 6 (by kernel_rfl); change x 6 = _ at _e; generalize x 6 = _y at _e hK ⊢; subst _e
          go_simp
          refine Calls.mono (HW1.out V (H0.out V (g2.trans (hV.mono g2.size)))) ?_
          rintro e v1 ⟨rfl, hb⟩
          exact hK.out _ _ rfl hb
        refine StepsF.cons (fun x V hV hp K hK => ?_) ?_
        · have _e := depsAll_get hp 5 (by kernel_rfl); change x 5 = _ at _e; generalize x 5 = _y at _e hK ⊢; subst _e
          obtain ⟨_c0, _c1⟩ := H3.out V (g2.trans (hV.mono g2.size))
          go_simp
          exact hK.out _ _ rfl (Below.refl _ _)
        refine StepsF.cons (fun x V hV hp K hK => ?_) ?_
        · have _e := depsAll_get hp 5 (by kernel_rfl); change x 5 = _ at _e; generalize x 5 = _y at _e hK ⊢; subst _e
          have _e := depsAll_get hp 8 (by kernel_rfl); change x 8 = _ at _e; generalize x 8 = _y at _e hK ⊢; subst _e
          go_simp
          refine Calls.mono (HW2.out V (H0.out V (g2.trans (hV.mono g2.size)))) ?_
          rintro e v1 ⟨rfl, hb⟩
          exact hK.out _ _ rfl hb
        refine StepsF.cons (fun x V hV hp K hK => ?_) ?_
        · have _e := depsAll_get hp 5 (by kernel_rfl); change x 5 = _ at _e; generalize x 5 = _y at _e hK ⊢; subst _e
          have _e := depsAll_get hp 7 (by kernel_rfl); change x 7 = _ at _e; generalize x 7 = _y at _e hK ⊢; subst _e
          have _e := depsAll_get hp 9 (by kernel_rfl); change x 9 = _ at _e; generalize x 9 = _y at _e hK ⊢; subst _e
          go_simp
          exact hK.out _ _ rfl (Below.refl _ _)
        refine StepsF.cons (fun x V hV hp K hK => ?_) ?_
        · have _e := depsAll_get hp 5 (by kernel_rfl); change x 5 = _ at _e; generalize x 5 = _y at _e hK ⊢; subst _e
          have _e := depsAll_get hp 10 (by kernel_rfl); change x 10 = _ at _e; generalize x 10 = _y at _e hK ⊢; subst _e
          go_simp
          exact hK.out _ _ rfl (Below.refl _ _)
        refine StepsF.cons (fun x V hV hp K hK => ?_) ?_
        · have _e := depsAll_get hp 11 (by kernel_rfl); change x 11 = _ at _e; generalize x 11 = _y at _e hK ⊢; subst _e
          go_simp
          exact hK.out _ _ rfl (Below.refl _ _)
        refine StepsF.cons (fun x V hV hp K hK => ?_) ?_
        · have _e := depsAll_get hp 12 (by kernel_rfl); change x 12 = _ at _e; generalize x 12 = _y at _e hK ⊢; subst _e
          obtain ⟨_c0, _c1⟩ := H7.out V (g2.trans (hV.mono g2.size))
          go_simp
          exact hK.out _ _ rfl (Below.refl _ _)
        refine StepsF.cons (fun x V hV hp K hK => ?_) ?_
        · have _e := depsAll_get hp 12 (by kernel_rfl); change x 12 = _ at _e; generalize x 12 = _y at _e hK ⊢; subst _e
          obtain ⟨_c0, _c1⟩ := H9.out V (g2.trans (hV.mono g2.size))
          go_simp
          exact hK.out _ _ rfl (Below.refl _ _)
        refine StepsF.cons (fun x V hV hp K hK => ?_) ?_
        · have _e := depsAll_get hp 12 (by kernel_rfl); change x 12 = _ at _e; generalize x 12 = _y at _e hK ⊢; subst _e
          have _e := depsAll_get hp 13 (by kernel_rfl); change x 13 = _ at _e; generalize x 13 = _y at _e hK ⊢; subst _e
          have _e := depsAll_get hp 14 (by kernel_rfl); change x 14 = _ at _e; generalize x 14 = _y at _e hK ⊢; subst _e
          go_simp
          exact hK.out _ _ rfl (Below.refl _ _)
        refine StepsF.cons (fun x V hV hp K hK => ?_) ?_
        · have _e := depsAll_get hp 12 (by kernel_rfl); change x 12 = _ at _e; generalize x 12 = _y at _e hK ⊢; subst _e
          have _e := depsAll_get hp 15 (by kernel_rfl); change x 15 = _ at _e; generalize x 15 = _y at _e hK ⊢; subst _e
          go_simp
          exact hK.out _ _ rfl (Below.refl _ _)
        refine StepsF.cons (fun x V hV hp K hK => ?_) ?_
        · have _e := depsAll_get hp 16 (by kernel_rfl); change x 16 = _ at _e; generalize x 16 = _y at _e hK ⊢; subst _e
          go_simp
          exact hK.out _ _ rfl (Below.refl _ _)
        refine StepsF.cons (fun x V hV hp K hK => ?_) ?_
        · have _e := depsAll_get hp 17 (by kernel_rfl); change x 17 = _ at _e; generalize x 17 = _y at _e hK ⊢; subst _e
          go_simp
          exact hK.out _ _ rfl (Below.refl _ _)
        refine StepsF.cons (fun x V hV hp K hK => ?_) ?_
        · have _e := depsAll_get hp 17 (by kernel_rfl); change x 17 = _ at _e; generalize x 17 = _y at _e hK ⊢; subst _e
          go_simp
          exact hK.out _ _ rfl (Below.refl _ _)
        refine StepsF.cons (fun x V hV hp K hK => ?_) ?_
        · have _e := depsAll_get hp 17 (by kernel_rfl); change x 17 = _ at _e; generalize x 17 = _y at _e hK ⊢; subst _e
          have _e := depsAll_get hp 18 (by kernel_rfl); change x 18 = _ at _e; generalize x 18 = _y at _e hK ⊢; subst _e
          have _e := depsAll_get hp 19 (by kernel_rfl); change x 19 = _ at _e; generalize x 19 = _y at _e hK ⊢; subst _e
          go_simp
          exact hK.out _ _ rfl (Below.refl _ _)
        refine StepsF.cons (fun x V hV hp K hK => ?_) ?_
        · have _e := depsAll_get hp 17 (by kernel_rfl); change x 17 = _ at _e; generalize x 17 = _y at _e hK ⊢; subst _e
          have _e := depsAll_get hp 20 (by kernel_rfl); change x 20 = _ at _e; generalize x 20 = _y at _e hK ⊢; subst _e
          go_simp
          exact hK.out _ _ rfl (Below.refl _ _)
        refine StepsF.cons (fun x V hV hp K hK => ?_) ?_
        · have _e := depsAll_get hp 21 (by kernel_rfl); change x 21 = _ at _e; generalize x 21 = _y at _e hK ⊢; subst _e
          go_simp
          exact hK.out _ _ rfl (Below.refl _ _)
        refine StepsF.cons (fun x V hV hp K hK => ?_) ?_
        · have _e := depsAll_get hp 22 (by kernel_rfl); change x 22 = _ at _e; generalize x 22 = _y at _e hK ⊢; subst _e
          go_simp
          refine Calls.mono (works_any V) ?_
          rintro e v1 ⟨rfl, hb⟩
          exact hK.out _ _ rfl hb
        refine StepsF.cons (fun x V hV hp K hK => ?_) ?_
        · have _e := depsAll_get hp 22 (by kernel_rfl); change x 22 = _ at _e; generalize x 22 = _y at _e hK ⊢; subst _e
          have _e := depsAll_get hp 23 (by kernel_rfl); change x 23 = _ at _e; generalize x 23 = _y at _e hK ⊢; subst _e
          go_simp
          exact hK.out _ _ rfl (Below.refl _ _)
        refine StepsF.cons (fun x V hV hp K hK => ?_) ?_
        · have _e := depsAll_get hp 24 (by kernel_rfl); change x 24 = _ at _e; generalize x 24 = _y at _e hK ⊢; subst _e
          go_simp
          exact hK.out _ _ rfl (Below.refl _ _)
        exact StepsF.nil
      intro x v5 hV hall
      have g5 : Below W.heap.size W v5 := g2.trans (hV.mono g2.size)
      have _e := hall 25 (by decide)
      change x 25 = _ at _e
      generalize x 25 = _y at _e ⊢
      subst _e
      have D5 := Lib.hid hV
      clear hV hall
      go_wp2_with fail
      go_ret
      exact ⟨rfl, H0.out _ g5⟩
    · have L := Lib.hid hl
      clear hl
      go_enter Try.func3, Try.ntmps3
      go_wp2_with (first
        | (go_at_call 14; refine (HG.out _ (by repeat (first | (with_reducible assumption) | (with_reducible exact Below.refl _ _) | ((with_reducible refine Below.alloc ?_ ?_ _); rotate_left; (focus (first | omega | (simp only [World.size_alloc, World.size_setCell, World.size_drew, World.heap_drewN]; first | done | omega)))) | ((with_reducible refine Below.setCell ?_ ?_ _); rotate_left; (focus (first | omega | (simp only [World.size_alloc, World.size_setCell, World.size_drew, World.heap_drewN]; first | done | omega)))) | (with_reducible refine below_drewN ?_ _) | (with_reducible refine Below.drew ?_) | ((with_reducible refine Below.trans ?_ (Below.mono (by assumption) ?_)); rotate_left; (focus (first | omega | (simp only [World.size_alloc, World.size_setCell, World.size_drew, World.heap_drewN]; first | done | omega))))))).mono ?_; rintro e w1 ⟨rfl, hb1⟩; rw [G.out]; obtain ⟨_hr1, _hr2⟩ := below_reads hb1; have _hz := Below.size hb1; (try simp only [World.size_alloc, World.size_setCell, World.size_drew, World.heap_drewN] at _hz); obtain ⟨_hr3, _hr4⟩ := below_reads (show Below w.heap.size w w1 from (by repeat (first | (with_reducible assumption) | (with_reducible exact Below.refl _ _) | ((with_reducible refine Below.alloc ?_ ?_ _); rotate_left; (focus (first | omega | (simp only [World.size_alloc, World.size_setCell, World.size_drew, World.heap_drewN]; first | done | omega)))) | ((with_reducible refine Below.setCell ?_ ?_ _); rotate_left; (focus (first | omega | (simp only [World.size_alloc, World.size_setCell, World.size_drew, World.heap_drewN]; first | done | omega)))) | (with_reducible refine below_drewN ?_ _) | (with_reducible refine Below.drew ?_) | ((with_reducible refine Below.trans ?_ (Below.mono (by assumption) ?_)); rotate_left; (focus (first | omega | (simp only [World.size_alloc, World.size_setCell, World.size_drew, World.heap_drewN]; first | done | omega))))))); have _q0 : w.heap.size < w1.heap.size := (by omega); have _q1 : w.heap.size + 1 < w1.heap.size := (by omega))
        | (go_at_call 15; refine (HL.out _ (by repeat (first | (with_reducible assumption) | (with_reducible exact Below.refl _ _) | ((with_reducible refine Below.alloc ?_ ?_ _); rotate_left; (focus (first | omega | (simp only [World.size_alloc, World.size_setCell, World.size_drew, World.heap_drewN]; first | done | omega)))) | ((with_reducible refine Below.setCell ?_ ?_ _); rotate_left; (focus (first | omega | (simp only [World.size_alloc, World.size_setCell, World.size_drew, World.heap_drewN]; first | done | omega)))) | (with_reducible refine below_drewN ?_ _) | (with_reducible refine Below.drew ?_) | ((with_reducible refine Below.trans ?_ (Below.mono (by assumption) ?_)); rotate_left; (focus (first | omega | (simp only [World.size_alloc, World.size_setCell, World.size_drew, World.heap_drewN]; first | done | omega))))))).mono ?_; rintro e w2 ⟨rfl, hb2⟩; rw [L.out]; obtain ⟨_hr1, _hr2⟩ := below_reads hb2; have _hz := Below.size hb2; (try simp only [World.size_alloc, World.size_setCell, World.size_drew, World.heap_drewN] at _hz); obtain ⟨_hr3, _hr4⟩ := below_reads (show Below w.heap.size w w2 from (by repeat (first | (with_reducible assumption) | (with_reducible exact Below.refl _ _) | ((with_reducible refine Below.alloc ?_ ?_ _); rotate_left; (focus (first | omega | (simp only [World.size_alloc, World.size_setCell, World.size_drew, World.heap_drewN]; first | done | omega)))) | ((with_reducible refine Below.setCell ?_ ?_ _); rotate_left; (focus (first | omega | (simp only [World.size_alloc, World.size_setCell, World.size_drew, World.heap_drewN]; first | done | omega)))) | (with_reducible refine below_drewN ?_ _) | (with_reducible refine Below.drew ?_) | ((with_reducible refine Below.trans ?_ (Below.mono (by assumption) ?_)); rotate_left; (focus (first | omega | (simp only [World.size_alloc, World.size_setCell, World.size_drew, World.heap_drewN]; first | done | omega))))))); have _q0 : w.heap.size < w2.heap.size := (by omega); have _q1 : w.heap.size + 1 < w2.heap.size := (by omega))
        | (go_at_call 16; refine (works_any _).mono ?_; rintro e w3 ⟨rfl, hb3⟩; obtain ⟨_hr1, _hr2⟩ := below_reads hb3; have _hz := Below.size hb3; (try simp only [World.size_alloc, World.size_setCell, World.size_drew, World.heap_drewN] at _hz); obtain ⟨_hr3, _hr4⟩ := below_reads (show Below w.heap.size w w3 from (by repeat (first | (with_reducible assumption) | (with_reducible exact Below.refl _ _) | ((with_reducible refine Below.alloc ?_ ?_ _); rotate_left; (focus (first | omega | (simp only [World.size_alloc, World.size_setCell, World.size_drew, World.heap_drewN]; first | done | omega)))) | ((with_reducible refine Below.setCell ?_ ?_ _); rotate_left; (focus (first | omega | (simp only [World.size_alloc, World.size_setCell, World.size_drew, World.heap_drewN]; first | done | omega)))) | (with_reducible refine below_drewN ?_ _) | (with_reducible refine Below.drew ?_) | ((with_reducible refine Below.trans ?_ (Below.mono (by assumption) ?_)); rotate_left; (focus (first | omega | (simp only [World.size_alloc, World.size_setCell, World.size_drew, World.heap_drewN]; first | done | omega))))))); have _q0 : w.heap.size < w3.heap.size := (by omega); have _q1 : w.heap.size + 1 < w3.heap.size := (by omega)))
      go_ret
      exact ⟨rfl, (by repeat (first | (with_reducible assumption) | (with_reducible exact Below.refl _ _) | ((with_reducible refine Below.alloc ?_ ?_ _); rotate_left; (focus (first | omega | (simp only [World.size_alloc, World.size_setCell, World.size_drew, World.heap_drewN]; first | done | omega)))) | ((with_reducible refine Below.setCell ?_ ?_ _); rotate_left; (focus (first | omega | (simp only [World.size_alloc, World.size_setCell, World.size_drew, World.heap_drewN]; first | done | omega)))) | (with_reducible refine below_drewN ?_ _) | (with_reducible refine Below.drew ?_) | ((with_reducible refine Below.trans ?_ (Below.mono (by assumption) ?_)); rotate_left; (focus (first | omega | (simp only [World.size_alloc, World.size_setCell, World.size_drew, World.heap_drewN]; first | done | omega))))))⟩
  · have G := Lib.hid hg
    clear hg
    go_enter Try.func3, Try.ntmps3
    go_wp2_with (first
      | (go_at_call 14; refine (HG.out _ (by repeat (first | (with_reducible assumption) | (with_reducible exact Below.refl _ _) | ((with_reducible refine Below.alloc ?_ ?_ _); rotate_left; (focus (first | omega | (simp only [World.size_alloc, World.size_setCell, World.size_drew, World.heap_drewN]; first | done | omega)))) | ((with_reducible refine Below.setCell ?_ ?_ _); rotate_left; (focus (first | omega | (simp only [World.size_alloc, World.size_setCell, World.size_drew, World.heap_drewN]; first | done | omega)))) | (with_reducible refine below_drewN ?_ _) | (with_reducible refine Below.drew ?_) | ((with_reducible refine Below.trans ?_ (Below.mono (by assumption) ?_)); rotate_left; (focus (first | omega | (simp only [World.size_alloc, World.size_setCell, World.size_drew, World.heap_drewN]; first | done | omega))))))).mono ?_; rintro e w1 ⟨rfl, hb1⟩; rw [G.out]; obtain ⟨_hr1, _hr2⟩ := below_reads hb1; have _hz := Below.size hb1; (try simp only [World.size_alloc, World.size_setCell, World.size_drew, World.heap_drewN] at _hz); obtain ⟨_hr3, _hr4⟩ := below_reads (show Below w.heap.size w w1 from (by repeat (first | (with_reducible assumption) | (with_reducible exact Below.refl _ _) | ((with_reducible refine Below.alloc ?_ ?_ _); rotate_left; (focus (first | omega | (simp only [World.size_alloc, World.size_setCell, World.size_drew, World.heap_drewN]; first | done | omega)))) | ((with_reducible refine Below.setCell ?_ ?_ _); rotate_left; (focus (first | omega | (simp only [World.size_alloc, World.size_setCell, World.size_drew, World.heap_drewN]; first | done | omega)))) | (with_reducible refine below_drewN ?_ _) | (with_reducible refine Below.drew ?_) | ((with_reducible refine Below.trans ?_ (Below.mono (by assumption) ?_)); rotate_left; (focus (first | omega | (simp only [World.size_alloc, World.size_setCell, World.size_drew, World.heap_drewN]; first | done | omega))))))); have _q0 : w.heap.size < w1.heap.size := (by omega); have _q1 : w.heap.size + 1 < w1.heap.size := (by omega))
      | (go_at_call 16; refine (works_any _).mono ?_; rintro e w3 ⟨rfl, hb3⟩; obtain ⟨_hr1, _hr2⟩ := below_reads hb3; have _hz := Below.size hb3; (try simp only [World.size_alloc, World.size_setCell, World.size_drew, World.heap_drewN] at _hz); obtain ⟨_hr3, _hr4⟩ := below_reads (show Below w.heap.size w w3 from (by repeat (first | (with_reducible assumption) | (with_reducible exact Below.refl _ _) | ((with_reducible refine Below.alloc ?_ ?_ _); rotate_left; (focus (first | omega | (simp only [World.size_alloc, World.size_setCell, World.size_drew, World.heap_drewN]; first | done | omega)))) | ((with_reducible refine Below.setCell ?_ ?_ _); rotate_left; (focus (first | omega | (simp only [World.size_alloc, World.size_setCell, World.size_drew, World.heap_drewN]; first | done | omega)))) | (with_reducible refine below_drewN ?_ _) | (with_reducible refine Below.drew ?_) | ((with_reducible refine Below.trans ?_ (Below.mono (by assumption) ?_)); rotate_left; (focus (first | omega | (simp only [World.size_alloc, World.size_setCell, World.size_drew, World.heap_drewN]; first | done | omega))))))); have _q0 : w.heap.size < w3.heap.size := (by omega); have _q1 : w.heap.size + 1 < w3.heap.size := (by omega)))
    go_ret
    exact ⟨rfl, (by repeat (first | (with_reducible assumption) | (with_reducible exact Below.refl _ _) | ((with_reducible refine Below.alloc ?_ ?_ _); rotate_left; (focus (first | omega | (simp only [World.size_alloc, World.size_setCell, World.size_drew, World.heap_drewN]; first | done | omega)))) | ((with_reducible refine Below.setCell ?_ ?_ _); rotate_left; (focus (first | omega | (simp only [World.size_alloc, World.size_setCell, World.size_drew, World.heap_drewN]; first | done | omega)))) | (with_reducible refine below_drewN ?_ _) | (with_reducible refine Below.drew ?_) | ((with_reducible refine Below.trans ?_ (Below.mono (by assumption) ?_)); rotate_left; (focus (first | omega | (simp only [World.size_alloc, World.size_setCell, World.size_drew, World.heap_drewN]; first | done | omega))))))⟩
end Go.Proofs.Ytigpefjeelgfdaa

/-
  Walks of layer 1's reference: the ranges of a recipe.
-/
namespace Go.Proofs.Ytigpefjeelgfdaa
open Go.RowKit

/-- The ranges of the first parts of a recipe, as cells. -/
def rngTo (x : Works) (m : Nat) (ways : List Int) (n : Nat) : List Value := ((List.range n).map (rngN x m ways)).flatMap rgV
theorem rngTo_succ (x : Works) (m : Nat) (ways : List Int) (k : Nat) : rngTo x m ways (k + 1) = rngTo x m ways k ++ [.int .i64 (rngN x m ways k).1, .int .i64 (rngN x m ways k).2] := by
  unfold rngTo
  rw [List.range_succ, List.map_append, List.flatMap_append]
  rfl
theorem own_first {w : World} {g : Nat} {t : TypeId} {a b : Value} {base : Nat} (h : Box w g t #[a, b]) (hb : base ≤ g) : w.ownsRow base t 2 (.slice (some ⟨g, 0, none⟩) 1 1) 1 [a, b] :=
  ⟨rfl, .inr ⟨g, 1, #[a, b], rfl, hb, h, Nat.le_refl _, by decide, rfl, rfl⟩⟩
theorem box_keep_gb {w w' : World} {g base n size : Nat} {t e : TypeId} {cs : Array Value} {v : Value} {xs : List Value} (h : Box w g t cs) (ho : w.ownsRow base e size v n xs) (hg : w.grownBy w' v.ownBlock) (hlt : g < base) : Box w' g t cs := by
  refine (hg.block g h.lt fun e => ?_).trans h
  rcases ho.2 with ⟨rfl, _⟩ | ⟨g', cap, cur, rfl, hb, _⟩
  · cases e
  · simp only [Value.ownBlock, Option.some.injEq] at e
    omega
theorem below_gb {w a w' : World} {base n size : Nat} {e : TypeId} {v : Value} {xs : List Value} (hb : Below w.heap.size w a) (ho : a.ownsRow base e size v n xs) (hg : a.grownBy w' v.ownBlock) (hlt : w.heap.size ≤ base) : Below w.heap.size w w' := by
  refine hb.trans (gb_to_below hg hb.size fun g h => ?_)
  rcases ho.2 with ⟨rfl, _⟩ | ⟨g', cap, cur, rfl, hb', _⟩
  · cases h
  · simp only [Value.ownBlock, Option.some.injEq] at h
    omega
theorem wayBox {w : World} {g : Nat} {t : TypeId} {a : Value} (h : Box w g t #[a]) : w.cell? ⟨g, 0, none⟩ = some a := h.cell 0

set_option maxRecDepth 100000 in
set_option maxHeartbeats 4000000 in
theorem refranges_own (Ab As Ar : Option Addr) (cb cs cr : Nat) (x : Works) (m : Nat) (ways : List Int) (B : Nat) (w : World) (h : In w B Ab As Ar cb cs cr x ways) (ok : RecOk x (m : Int) ways) :
    Calls Try.prog 64 #[.agg #[.slice Ab x.bars.length cb, .slice As x.steps.length cs], .agg #[.int .i64 m, .slice Ar ways.length cr]] w fun e w' => ∃ v, e = .returned v ∧ Hid (w'.ownsRow w.heap.size 33 2 v (x.steps.length + 1) (rngTo x m ways (x.steps.length + 1))) ∧ Below w.heap.size w w' := by
  have hwl : Hid (ways.length = x.steps.length) := ok.len
  have hs6 := steps_few ok.works
  have hmb : m < x.bars.length := by have := ok.bar1; omega
  have hmb' : (m : Int) < (x.bars.length : Int) := by omega
  obtain ⟨b0, o0, lo0, hi0, rfl, hb0, hx0, e0, e1⟩ := rgsA h.bars hmb
  have hr0 : Hid (rngN x m ways 0 = (lo0, hi0)) := rgAt_of hx0
  have hB := h.le
  have hbw : b0 < w.heap.size := by omega
  have nn : (0 : Int) ≤ (m : Int) := by omega
  obtain ⟨i0, hi', hy0, hy1, hy2⟩ := info_parts infoRange
  go_enter Try.func64, Try.ntmps64
  go_wp2_with fail
  have ht0 : Hid ([.int .i64 lo0, .int .i64 hi0] = rngTo x m ways 1) := Lib.hid (by rw [rngTo_succ, hr0.out]; rfl)
  go_loopw [6, 7] (fun out i wr => ∃ (k : Nat) (vr : Value) (lo hi : Int), k ≤ ways.length ∧ i = .int .i64 k ∧ vr = out ∧ Hid (rngN x m ways k = (lo, hi)) ∧ Hid (wr.ownsRow (w.heap.size + 3) 33 2 vr (k + 1) (rngTo x m ways (k + 1))) ∧ Below w.heap.size w wr ∧
        Box wr w.heap.size 25 #[.slice (some ⟨b0, o0, none⟩) x.bars.length cb, .slice As x.steps.length cs] ∧ Box wr (w.heap.size + 1) 42 #[.int .i64 m, .slice Ar ways.length cr] ∧ Box wr (w.heap.size + 2) 33 #[.int .i64 lo, .int .i64 hi])
      (fun _ i _ => ways.length - (intOf i).toNat)
  case atStart =>
    refine ⟨0, _, lo0, hi0, by omega, rfl, rfl, hr0, Lib.hid ?_, (by repeat (first | (with_reducible assumption) | (with_reducible exact Below.refl _ _) | ((with_reducible refine Below.alloc ?_ ?_ _); rotate_left; (focus (first | omega | (simp only [World.size_alloc, World.size_setCell, World.size_drew, World.heap_drewN]; first | done | omega)))) | ((with_reducible refine Below.setCell ?_ ?_ _); rotate_left; (focus (first | omega | (simp only [World.size_alloc, World.size_setCell, World.size_drew, World.heap_drewN]; first | done | omega)))) | (with_reducible refine below_drewN ?_ _) | (with_reducible refine Below.drew ?_) | ((with_reducible refine Below.trans ?_ (Below.mono (by assumption) ?_)); rotate_left; (focus (first | omega | (simp only [World.size_alloc, World.size_setCell, World.size_drew, World.heap_drewN]; first | done | omega)))))), ?_, ?_, ?_⟩
    · rw [← ht0.out]
      exact own_first (Box.new' (by simp)) (by simp)
    all_goals (refine Box.of_f ?_; repeat (first | ((with_reducible refine BoxF.done (by with_reducible assumption) ?_); rfl) | ((with_reducible refine BoxF.new ?_ ?_); (focus (first | omega | (simp only [World.size_alloc, World.size_setCell, World.size_drew, World.heap_drewN]; first | done | omega))); rfl) | ((with_reducible refine BoxF.alloc ?_ ?_); (focus (first | omega | (simp only [World.size_alloc, World.size_setCell, World.size_drew, World.heap_drewN]; first | done | omega)))) | (with_reducible refine BoxF.set ?_) | ((with_reducible refine BoxF.far ?_ ?_); ((try simp only []); omega)) | (with_reducible refine BoxF.drewN ?_) | (with_reducible refine BoxF.drew ?_) | ((with_reducible refine BoxF.below (by with_reducible assumption) ?_ ?_); (focus (first | omega | (simp only [World.size_alloc, World.size_setCell, World.size_drew, World.heap_drewN]; first | done | omega))))))
  case round =>
    obtain ⟨k, vr, lo, hi, hk, rfl, rfl, hrk, hov, hbl, bw, br, bn⟩ := hrel
    obtain ⟨u5, u6, u7, u8⟩ := bw.two
    obtain ⟨t5, t6, t7, t8⟩ := br.two
    obtain ⟨n5, n6, n7, n8⟩ := bn.two
    have hz1 := bw.lt
    have hz2 := br.lt
    have hz3 := bn.lt
    by_cases hlt : k < ways.length
    · obtain ⟨b1, o1, b2, o2, b3, o3, A1, A2, c1, c2, ws, mm, ks, rfl, rfl, rfl, hb1', hb2', hb3', hm, f1, f2, f3, l1, l2, l3, l4, hks, hwo, hwe, hne0, _⟩ := way_at h.steps h.rways ok (i := k) (by have := hwl.out; omega)
      have f1' := (hbl.cell (p := ⟨b1, o1 + k, none⟩) (by simp only []; omega)).trans f1
      have f2' := (hbl.cell (p := ⟨b2, o2 + k, none⟩) (by simp only []; omega)).trans f2
      have f3' := (hbl.cell (p := ⟨b3, o3 + mm, none⟩) (by simp only []; omega)).trans f3
      have v1 : b1 < wr.heap.size := by omega
      have v2 : b2 < wr.heap.size := by omega
      have v3 : b3 < wr.heap.size := by omega
      have s7 : (k : Int) < (ways.length : Int) := by omega
      have s8 : (mm : Int) < (ws.length : Int) := by omega
      have s9 : (k : Int) < (x.steps.length : Int) := by have := hwl.out; omega
      have hrk1 : Hid (rngN x m ways (k + 1) = ((aft ks lo).1, (aft ks hi).2)) := Lib.hid (by show ((aft (wayOf x ways k) (rngN x m ways k).1).1, (aft (wayOf x ways k) (rngN x m ways k).2).2) = _; rw [hwo.out, hrk.out])
      clear hwe hwo
      go_wp2_with fail
      have hcells : ∀ V, Below wr.heap.size wr V → (V.cell? ⟨w.heap.size, 0 + 1, none⟩ = some (.slice (some ⟨b1, o1, none⟩) x.steps.length cs) ∧ V.cell? ⟨w.heap.size + 1, 0 + 1, none⟩ = some (.slice (some ⟨b2, o2, none⟩) ways.length cr) ∧
          V.cell? ⟨b1, o1 + k, none⟩ = some (.slice (some ⟨b3, o3, none⟩) ws.length c1) ∧ V.cell? ⟨b2, o2 + k, none⟩ = some (.int .i64 mm) ∧ V.cell? ⟨b3, o3 + mm, none⟩ = some (.slice A2 ks.length c2)) :=
        fun V hV => ⟨(Box.below bw hV hz1).cell 1, (Box.below br hV hz2).cell 1, (hV.cell (p := ⟨b1, o1 + k, none⟩) v1).trans f1', (hV.cell (p := ⟨b2, o2 + k, none⟩) v2).trans f2', (hV.cell (p := ⟨b3, o3 + mm, none⟩) v3).trans f3'⟩
      have HC := Lib.hid hcells
      clear hcells
      go_region_held3 (fun V => V.cell? ⟨w.heap.size, 0 + 1, none⟩ = some (.slice (some ⟨b1, o1, none⟩) x.steps.length cs) ∧ V.cell? ⟨w.heap.size + 1, 0 + 1, none⟩ = some (.slice (some ⟨b2, o2, none⟩) ways.length cr) ∧
          V.cell? ⟨b1, o1 + k, none⟩ = some (.slice (some ⟨b3, o3, none⟩) ws.length c1) ∧ V.cell? ⟨b2, o2 + k, none⟩ = some (.int .i64 mm) ∧ V.cell? ⟨b3, o3 + mm, none⟩ = some (.slice A2 ks.length c2)) ((exact HC.out _ (by repeat (first | (with_reducible assumption) | (with_reducible exact Below.refl _ _) | ((with_reducible refine Below.alloc ?_ ?_ _); rotate_left; (focus (first | omega | (simp only [World.size_alloc, World.size_setCell, World.size_drew, World.heap_drewN]; first | done | omega)))) | ((with_reducible refine Below.setCell ?_ ?_ _); rotate_left; (focus (first | omega | (simp only [World.size_alloc, World.size_setCell, World.size_drew, World.heap_drewN]; first | done | omega)))) | (with_reducible refine below_drewN ?_ _) | (with_reducible refine Below.drew ?_) | ((with_reducible refine Below.trans ?_ (Below.mono (by assumption) ?_)); rotate_left; (focus (first | omega | (simp only [World.size_alloc, World.size_setCell, World.size_drew, World.heap_drewN]; first | done | omega)))))))) (fail)
      go_wp2_with fail
      generalize hW0 : (wr.alloc (.cells #[.slice A2 ks.length c2] 28)).drew = W0
      have hbl0 : Below wr.heap.size wr W0 := by rw [← hW0]; exact (by repeat (first | (with_reducible assumption) | (with_reducible exact Below.refl _ _) | ((with_reducible refine Below.alloc ?_ ?_ _); rotate_left; (focus (first | omega | (simp only [World.size_alloc, World.size_setCell, World.size_drew, World.heap_drewN]; first | done | omega)))) | ((with_reducible refine Below.setCell ?_ ?_ _); rotate_left; (focus (first | omega | (simp only [World.size_alloc, World.size_setCell, World.size_drew, World.heap_drewN]; first | done | omega)))) | (with_reducible refine below_drewN ?_ _) | (with_reducible refine Below.drew ?_) | ((with_reducible refine Below.trans ?_ (Below.mono (by assumption) ?_)); rotate_left; (focus (first | omega | (simp only [World.size_alloc, World.size_setCell, World.size_drew, World.heap_drewN]; first | done | omega))))))
      have bk : Box W0 wr.heap.size 28 #[.slice A2 ks.length c2] := by rw [← hW0]; (refine Box.of_f ?_; repeat (first | ((with_reducible refine BoxF.done (by with_reducible assumption) ?_); rfl) | ((with_reducible refine BoxF.new ?_ ?_); (focus (first | omega | (simp only [World.size_alloc, World.size_setCell, World.size_drew, World.heap_drewN]; first | done | omega))); rfl) | ((with_reducible refine BoxF.alloc ?_ ?_); (focus (first | omega | (simp only [World.size_alloc, World.size_setCell, World.size_drew, World.heap_drewN]; first | done | omega)))) | (with_reducible refine BoxF.set ?_) | ((with_reducible refine BoxF.far ?_ ?_); ((try simp only []); omega)) | (with_reducible refine BoxF.drewN ?_) | (with_reducible refine BoxF.drew ?_) | ((with_reducible refine BoxF.below (by with_reducible assumption) ?_ ?_); (focus (first | omega | (simp only [World.size_alloc, World.size_setCell, World.size_drew, World.heap_drewN]; first | done | omega))))))
      have bw0 := Box.below bw hbl0 hz1
      have br0 := Box.below br hbl0 hz2
      have bn0 := Box.below bn hbl0 hz3
      have ho0 : Hid (W0.ownsRow (w.heap.size + 3) 33 2 vr (k + 1) (rngTo x m ways (k + 1))) := Lib.hid (own_later hov.out hbl0)
      clear hW0 f1 f2 f3 f1' f2' f3' u5 u6 u7 u8 t5 t6 t7 t8 n5 n6 n7 n8 HC
      obtain ⟨k5, k6⟩ := bk.one
      obtain ⟨n5, n6, n7, n8⟩ := bn0.two
      have hk0 := bk.lt
      have hn0 := bn0.lt
      have hzw := hbl0.size
      obtain ⟨a1, a2, hal⟩ : ∃ a1 a2, aft ks lo = (a1, a2) := ⟨_, _, rfl⟩
      obtain ⟨e1, e2, hah⟩ : ∃ a1 a2, aft ks hi = (a1, a2) := ⟨_, _, rfl⟩
      have hkl : ∀ n : Int, ∀ W : World, Below W0.heap.size W0 W → Calls Try.prog 55 #[.agg #[.slice A2 ks.length c2], .int .i64 n] W fun e w' => e = .returned (.agg #[.int .i64 (aft ks n).1, .int .i64 (aft ks n).2]) ∧ Below W.heap.size W w' :=
        fun n W hW => refAfter_any A2 c2 ks n B W (kinks_on hks (n := w.heap.size) (hbl.trans ((hbl0.trans (hW.mono hzw)).mono hbl.size)) hB) l3 l4 (by have := hW.size; omega) hne0
      have h1 := hkl lo
      have h2 := hkl hi
      rw [hal] at h1
      rw [hah] at h2
      have H1 := Lib.hid h1
      have H2 := Lib.hid h2
      have HN : Hid (rngN x m ways (k + 1) = (a1, e2)) := Lib.hid (by rw [hrk1.out, hal, hah])
      clear hkl h1 h2 hal hah hrk1
      refine wp_region_later_tail 11 (by kernel_rfl) (by kernel_rfl) ?_
      simp only [List.take_succ_cons, List.take_zero, List.drop_succ_cons, List.drop_zero]
      have _hl := later_reads W0
      (repeat (go_big_quiet_step ((go_at_call 55; exact LaterW.callsB (fun W hW => H1.out W hW)))))
      refine wpQuiet_field (.agg #[.int .i64 a1, .int .i64 a2]) (.int .i64 a1) rfl (run_field_lo a1 a2) ?_
      simp only [Act.put, List.setIfInBounds_toArray, List.set_cons_zero, List.set_cons_succ]
      (repeat (go_big_quiet_step ((go_at_call 55; exact LaterW.callsB (fun W hW => H2.out W hW)))))
      refine wpQuiet_field (.agg #[.int .i64 e1, .int .i64 e2]) (.int .i64 e2) rfl (run_field_hi e1 e2) ?_
      simp only [Act.put, List.setIfInBounds_toArray, List.set_cons_zero, List.set_cons_succ]
      (repeat (go_big_quiet_step ((go_at_call 55; exact LaterW.callsB (fun W hW => H2.out W hW)))))
      refine wpQuiet_nil ?_
      intro W1 hw'
      have hb_W1 := later_below hw'
      clear hw' _hl
      have bw1 := Box.below bw0 hb_W1 bw0.lt
      have br1 := Box.below br0 hb_W1 br0.lt
      have bn1 := Box.below bn0 hb_W1 bn0.lt
      have ho1 : Hid (W1.ownsRow (w.heap.size + 3) 33 2 vr (k + 1) (rngTo x m ways (k + 1))) := Lib.hid (own_later ho0.out hb_W1)
      have hb1 : Below w.heap.size w W1 := hbl.trans ((hbl0.trans (hb_W1.mono hzw)).mono hbl.size)
      clear bw br bn bw0 br0 bn0 bk k5 k6 n5 n6 n7 n8 hov ho0 hbl0 hb_W1 H1 H2 hks
      obtain ⟨n5, n6, n7, n8⟩ := bn1.two
      have hn1 := bn1.lt
      have ho2 : Hid (((W1.setCell ⟨w.heap.size + 1 + 1, 0, none⟩ (.int .i64 a1)).setCell ⟨w.heap.size + 1 + 1, 1, none⟩ (.int .i64 e2)).ownsRow (w.heap.size + 3) 33 2 vr (k + 1) (rngTo x m ways (k + 1))) :=
        Lib.hid (own_far (own_far ho1.out (by simp only []; omega) _) (by simp only []; omega) _)
      have hlk : Hid (k + 1 ≤ 7) := Lib.hid (by have := hwl.out; omega)
      go_wp2_with (refine wpList_append_own _ rfl (.tmp 48) (.tmp 50) 22 rfl (w.heap.size + 3) 33 i0 _ 2 16 Try.underlying22 hi' hy0 hy1 hy2 rfl (by decide) vr (k + 1) (rngTo x m ways (k + 1)) (by simp [Act.eval, Act.put]) (own_later ho2.out ((Below.refl _ _).alloc (Nat.le_refl _) _)) ⟨W1.heap.size, 0, none⟩ 1 1 [.int .i64 a1, .int .i64 e2] (by simp [Act.eval, Act.put]) rfl (cells_two_new _ _ _ _ _ (by simp)) (by simp [Value.oneCell']) (by have := hlk.out; simp [maxLen]; omega) (by have := hlk.out; omega) (by simp only [World.size_alloc, World.size_setCell]; omega) ?_; intro v' w' hown hgrow _; have HO := Lib.hid hown; have HGr := Lib.hid hgrow; clear hown hgrow)
      have hW2 : Below w.heap.size w (((W1.setCell ⟨w.heap.size + 1 + 1, 0, none⟩ (.int .i64 a1)).setCell ⟨w.heap.size + 1 + 1, 1, none⟩ (.int .i64 e2)).alloc (.cells #[.int .i64 a1, .int .i64 e2] 33)) := (by repeat (first | (with_reducible assumption) | (with_reducible exact Below.refl _ _) | ((with_reducible refine Below.alloc ?_ ?_ _); rotate_left; (focus (first | omega | (simp only [World.size_alloc, World.size_setCell, World.size_drew, World.heap_drewN]; first | done | omega)))) | ((with_reducible refine Below.setCell ?_ ?_ _); rotate_left; (focus (first | omega | (simp only [World.size_alloc, World.size_setCell, World.size_drew, World.heap_drewN]; first | done | omega)))) | (with_reducible refine below_drewN ?_ _) | (with_reducible refine Below.drew ?_) | ((with_reducible refine Below.trans ?_ (Below.mono (by assumption) ?_)); rotate_left; (focus (first | omega | (simp only [World.size_alloc, World.size_setCell, World.size_drew, World.heap_drewN]; first | done | omega))))))
      have ho3 : Hid ((((W1.setCell ⟨w.heap.size + 1 + 1, 0, none⟩ (.int .i64 a1)).setCell ⟨w.heap.size + 1 + 1, 1, none⟩ (.int .i64 e2)).alloc (.cells #[.int .i64 a1, .int .i64 e2] 33)).ownsRow (w.heap.size + 3) 33 2 vr (k + 1) (rngTo x m ways (k + 1))) :=
        Lib.hid (own_later ho2.out ((Below.refl _ _).alloc (Nat.le_refl _) _))
      have q1 : Box (((W1.setCell ⟨w.heap.size + 1 + 1, 0, none⟩ (.int .i64 a1)).setCell ⟨w.heap.size + 1 + 1, 1, none⟩ (.int .i64 e2)).alloc (.cells #[.int .i64 a1, .int .i64 e2] 33)) w.heap.size 25 #[.slice (some ⟨b0, o0, none⟩) x.bars.length cb, .slice (some ⟨b1, o1, none⟩) x.steps.length cs] := by (refine Box.of_f ?_; repeat (first | ((with_reducible refine BoxF.done (by with_reducible assumption) ?_); rfl) | ((with_reducible refine BoxF.new ?_ ?_); (focus (first | omega | (simp only [World.size_alloc, World.size_setCell, World.size_drew, World.heap_drewN]; first | done | omega))); rfl) | ((with_reducible refine BoxF.alloc ?_ ?_); (focus (first | omega | (simp only [World.size_alloc, World.size_setCell, World.size_drew, World.heap_drewN]; first | done | omega)))) | (with_reducible refine BoxF.set ?_) | ((with_reducible refine BoxF.far ?_ ?_); ((try simp only []); omega)) | (with_reducible refine BoxF.drewN ?_) | (with_reducible refine BoxF.drew ?_) | ((with_reducible refine BoxF.below (by with_reducible assumption) ?_ ?_); (focus (first | omega | (simp only [World.size_alloc, World.size_setCell, World.size_drew, World.heap_drewN]; first | done | omega))))))
      have q2 : Box (((W1.setCell ⟨w.heap.size + 1 + 1, 0, none⟩ (.int .i64 a1)).setCell ⟨w.heap.size + 1 + 1, 1, none⟩ (.int .i64 e2)).alloc (.cells #[.int .i64 a1, .int .i64 e2] 33)) (w.heap.size + 1) 42 #[.int .i64 m, .slice (some ⟨b2, o2, none⟩) ways.length cr] := by (refine Box.of_f ?_; repeat (first | ((with_reducible refine BoxF.done (by with_reducible assumption) ?_); rfl) | ((with_reducible refine BoxF.new ?_ ?_); (focus (first | omega | (simp only [World.size_alloc, World.size_setCell, World.size_drew, World.heap_drewN]; first | done | omega))); rfl) | ((with_reducible refine BoxF.alloc ?_ ?_); (focus (first | omega | (simp only [World.size_alloc, World.size_setCell, World.size_drew, World.heap_drewN]; first | done | omega)))) | (with_reducible refine BoxF.set ?_) | ((with_reducible refine BoxF.far ?_ ?_); ((try simp only []); omega)) | (with_reducible refine BoxF.drewN ?_) | (with_reducible refine BoxF.drew ?_) | ((with_reducible refine BoxF.below (by with_reducible assumption) ?_ ?_); (focus (first | omega | (simp only [World.size_alloc, World.size_setCell, World.size_drew, World.heap_drewN]; first | done | omega))))))
      have q3 : Box (((W1.setCell ⟨w.heap.size + 1 + 1, 0, none⟩ (.int .i64 a1)).setCell ⟨w.heap.size + 1 + 1, 1, none⟩ (.int .i64 e2)).alloc (.cells #[.int .i64 a1, .int .i64 e2] 33)) (w.heap.size + 2) 33 #[.int .i64 a1, .int .i64 e2] := by (refine Box.of_f ?_; repeat (first | ((with_reducible refine BoxF.done (by with_reducible assumption) ?_); rfl) | ((with_reducible refine BoxF.new ?_ ?_); (focus (first | omega | (simp only [World.size_alloc, World.size_setCell, World.size_drew, World.heap_drewN]; first | done | omega))); rfl) | ((with_reducible refine BoxF.alloc ?_ ?_); (focus (first | omega | (simp only [World.size_alloc, World.size_setCell, World.size_drew, World.heap_drewN]; first | done | omega)))) | (with_reducible refine BoxF.set ?_) | ((with_reducible refine BoxF.far ?_ ?_); ((try simp only []); omega)) | (with_reducible refine BoxF.drewN ?_) | (with_reducible refine BoxF.drew ?_) | ((with_reducible refine BoxF.below (by with_reducible assumption) ?_ ?_); (focus (first | omega | (simp only [World.size_alloc, World.size_setCell, World.size_drew, World.heap_drewN]; first | done | omega))))))
      go_roundw
      case rel =>
        refine ⟨k + 1, _, a1, e2, by omega, by go_num, rfl, HN, Lib.hid ?_, below_gb hW2 ho3.out HGr.out (by omega), box_keep_gb q1 ho3.out HGr.out (by omega), box_keep_gb q2 ho3.out HGr.out (by omega), box_keep_gb q3 ho3.out HGr.out (by omega)⟩
        rw [rngTo_succ, HN.out]
        exact HO.out
      case measure => simp [intOf]; omega
    · have hkn : k = x.steps.length := by have := hwl.out; omega
      subst hkn
      go_wp2_with fail
      go_ret
      exact ⟨_, rfl, Lib.hid (own_mono hov.out (by omega)), hbl⟩
theorem refranges_ok (Ab As Ar : Option Addr) (cb cs cr : Nat) (x : Works) (m : Nat) (ways : List Int) (B : Nat) (w : World) (h : In w B Ab As Ar cb cs cr x ways) (ok : RecOk x (m : Int) ways) :
    CallsF 64 #[.agg #[.slice Ab x.bars.length cb, .slice As x.steps.length cs], .agg #[.int .i64 m, .slice Ar ways.length cr]] w (Fact.rgs ((List.range (x.steps.length + 1)).map (rngN x m ways))) := by
  refine Calls.mono (refranges_own Ab As Ar cb cs cr x m ways B w h ok) ?_
  rintro e w' ⟨v, rfl, ho, hb⟩
  refine ⟨v, rfl, own_rgs (base := w.heap.size) (e := 33) ?_, hb⟩
  rw [List.length_map, List.length_range]
  exact ho.out
end Go.Proofs.Ytigpefjeelgfdaa

/-
  Walks of layer 1's reference: Ranges, CheckHistory.
-/
namespace Go.Proofs.Ytigpefjeelgfdaa
open Go.RowKit

/-- The list, or nothing where there is an error. -/
def orNil {α : Type} (r : Int) (l : List α) : List α := if r = 0 then l else []
theorem res_rgs {l : List Rg} {r : Int} {v : Value} {w : World} (h : (Fact.res (Fact.rgs l) r).holds v w) : (Fact.first (Fact.rgs (orNil r l)) (.int .i64 r)).holds v w := by
  obtain ⟨u, hu, h1, h2⟩ := h
  refine ⟨u, hu, ?_⟩
  unfold orNil
  split
  · exact h1 ‹_›
  · rw [h2 ‹_›]; exact SL.nil _ _ _ _
theorem res_ints {l : List Int} {r : Int} {v : Value} {w : World} (h : (Fact.res (Fact.ints l) r).holds v w) : (Fact.first (Fact.ints (orNil r l)) (.int .i64 r)).holds v w := by
  obtain ⟨u, hu, h1, h2⟩ := h
  refine ⟨u, hu, ?_⟩
  unfold orNil
  split
  · exact h1 ‹_›
  · rw [h2 ‹_›]; exact SL.nil _ _ _ _
theorem CallsF.imp {f : FuncId} {args : Array Value} {w : World} {F G : Fact} (h : CallsF f args w F) (hi : ∀ v w', F.holds v w' → G.holds v w') : CallsF f args w G :=
  Calls.mono h fun _ _ ⟨v, he, hv, hb⟩ => ⟨v, he, hi v _ hv, hb⟩

def rngsOf (x : Works) (bar : Int) (ways : List Int) : List Rg := (List.range (x.steps.length + 1)).map (rngN x bar.toNat ways)
theorem heatRanges_first {Ab As Ar : Option Addr} {cb cs cr : Nat} {x : Works} {bar : Int} {ways : List Int} {B : Nat} {w : World} (h : In w B Ab As Ar cb cs cr x ways) :
    CallsF 23 #[.agg #[.slice Ab x.bars.length cb, .slice As x.steps.length cs], .agg #[.int .i64 bar, .slice Ar ways.length cr]] w
      (Fact.first (Fact.rgs (orNil (recErr x bar ways) (rngsOf x bar ways))) (.int .i64 (recErr x bar ways))) := by
  refine (heatRanges_read h).imp fun v w' hv => ?_
  have h1 := res_rgs hv
  by_cases g : recErr x bar ways = 0
  · have ok := recOk_iff.1 g
    obtain ⟨m, hbar⟩ := Int.eq_ofNat_of_zero_le ok.bar0
    subst hbar
    have e := endsL_iv ok
    have e2 : endsL (rowOf x ways (barP x (m : Int).toNat)) (x.steps.length + 1) = rngsOf x m ways := e
    rw [e2] at h1
    exact h1
  · unfold orNil at h1 ⊢
    rw [if_neg g] at h1 ⊢
    exact h1

set_option maxHeartbeats 1000000 in
theorem refRanges_first {Ab As Ar : Option Addr} {cb cs cr : Nat} {x : Works} {bar : Int} {ways : List Int} {B : Nat} {w : World} (h : In w B Ab As Ar cb cs cr x ways) :
    CallsF 24 #[.agg #[.slice Ab x.bars.length cb, .slice As x.steps.length cs], .agg #[.int .i64 bar, .slice Ar ways.length cr]] w
      (Fact.first (Fact.rgs (orNil (recErr x bar ways) (rngsOf x bar ways))) (.int .i64 (recErr x bar ways))) := by
  have hB := h.le
  have hre : ∀ W : World, Below w.heap.size w W → Calls Try.prog 63 #[.agg #[.slice Ab x.bars.length cb, .slice As x.steps.length cs], .agg #[.int .i64 bar, .slice Ar ways.length cr]] W fun e w' => e = .returned (.int .i64 (recErr x bar ways)) ∧ Below W.heap.size W w' :=
    fun W hW => refIsRecipe_any Ab As Ar cb cs cr x bar ways B W (h.on hW hB)
  have HRE := Lib.hid hre
  clear hre
  by_cases g : recErr x bar ways = 0
  · have ok := recOk_iff.1 g
    obtain ⟨m, hbar⟩ := Int.eq_ofNat_of_zero_le ok.bar0
    subst hbar
    have hrr : ∀ W : World, Below w.heap.size w W → CallsF 64 #[.agg #[.slice Ab x.bars.length cb, .slice As x.steps.length cs], .agg #[.int .i64 m, .slice Ar ways.length cr]] W (Fact.rgs (rngsOf x m ways)) :=
      fun W hW => refranges_ok Ab As Ar cb cs cr x m ways B W (h.on hW hB) ok
    have HRR := Lib.hid hrr
    have G := Lib.hid g
    clear hrr g ok
    go_enter Try.func24, Try.ntmps24
    go_wp2_with (first
      | (go_at_call 63; refine (HRE.out _ (by repeat (first | (with_reducible assumption) | (with_reducible exact Below.refl _ _) | ((with_reducible refine Below.alloc ?_ ?_ _); rotate_left; (focus (first | omega | (simp only [World.size_alloc, World.size_setCell, World.size_drew, World.heap_drewN]; first | done | omega)))) | ((with_reducible refine Below.setCell ?_ ?_ _); rotate_left; (focus (first | omega | (simp only [World.size_alloc, World.size_setCell, World.size_drew, World.heap_drewN]; first | done | omega)))) | (with_reducible refine below_drewN ?_ _) | (with_reducible refine Below.drew ?_) | ((with_reducible refine Below.trans ?_ (Below.mono (by assumption) ?_)); rotate_left; (focus (first | omega | (simp only [World.size_alloc, World.size_setCell, World.size_drew, World.heap_drewN]; first | done | omega))))))).mono ?_; rintro e w1 ⟨rfl, hb1⟩; rw [G.out]; obtain ⟨_hr1, _hr2⟩ := below_reads hb1; have _hz := Below.size hb1; (try simp only [World.size_alloc, World.size_setCell, World.size_drew, World.heap_drewN] at _hz); obtain ⟨_hr3, _hr4⟩ := below_reads (show Below w.heap.size w w1 from (by repeat (first | (with_reducible assumption) | (with_reducible exact Below.refl _ _) | ((with_reducible refine Below.alloc ?_ ?_ _); rotate_left; (focus (first | omega | (simp only [World.size_alloc, World.size_setCell, World.size_drew, World.heap_drewN]; first | done | omega)))) | ((with_reducible refine Below.setCell ?_ ?_ _); rotate_left; (focus (first | omega | (simp only [World.size_alloc, World.size_setCell, World.size_drew, World.heap_drewN]; first | done | omega)))) | (with_reducible refine below_drewN ?_ _) | (with_reducible refine Below.drew ?_) | ((with_reducible refine Below.trans ?_ (Below.mono (by assumption) ?_)); rotate_left; (focus (first | omega | (simp only [World.size_alloc, World.size_setCell, World.size_drew, World.heap_drewN]; first | done | omega))))))); have _q0 : w.heap.size < w1.heap.size := (by omega); have _q1 : w.heap.size + 1 < w1.heap.size := (by omega))
      | (go_at_call 64; refine Calls.mono (HRR.out _ (by repeat (first | (with_reducible assumption) | (with_reducible exact Below.refl _ _) | ((with_reducible refine Below.alloc ?_ ?_ _); rotate_left; (focus (first | omega | (simp only [World.size_alloc, World.size_setCell, World.size_drew, World.heap_drewN]; first | done | omega)))) | ((with_reducible refine Below.setCell ?_ ?_ _); rotate_left; (focus (first | omega | (simp only [World.size_alloc, World.size_setCell, World.size_drew, World.heap_drewN]; first | done | omega)))) | (with_reducible refine below_drewN ?_ _) | (with_reducible refine Below.drew ?_) | ((with_reducible refine Below.trans ?_ (Below.mono (by assumption) ?_)); rotate_left; (focus (first | omega | (simp only [World.size_alloc, World.size_setCell, World.size_drew, World.heap_drewN]; first | done | omega))))))) ?_; rintro e w2 ⟨v2, rfl, hv2, hb2⟩; have HV2 := Lib.hid hv2; clear hv2; obtain ⟨_hr1, _hr2⟩ := below_reads hb2; have _hz := Below.size hb2; (try simp only [World.size_alloc, World.size_setCell, World.size_drew, World.heap_drewN] at _hz); obtain ⟨_hr3, _hr4⟩ := below_reads (show Below w.heap.size w w2 from (by repeat (first | (with_reducible assumption) | (with_reducible exact Below.refl _ _) | ((with_reducible refine Below.alloc ?_ ?_ _); rotate_left; (focus (first | omega | (simp only [World.size_alloc, World.size_setCell, World.size_drew, World.heap_drewN]; first | done | omega)))) | ((with_reducible refine Below.setCell ?_ ?_ _); rotate_left; (focus (first | omega | (simp only [World.size_alloc, World.size_setCell, World.size_drew, World.heap_drewN]; first | done | omega)))) | (with_reducible refine below_drewN ?_ _) | (with_reducible refine Below.drew ?_) | ((with_reducible refine Below.trans ?_ (Below.mono (by assumption) ?_)); rotate_left; (focus (first | omega | (simp only [World.size_alloc, World.size_setCell, World.size_drew, World.heap_drewN]; first | done | omega))))))); have _q0 : w.heap.size < w2.heap.size := (by omega); have _q1 : w.heap.size + 1 < w2.heap.size := (by omega)))
    refine bodyPost_ret (v := .tuple #[v2, .int .i64 0]) (by simp [results, Try.results24, go_sem, *]) rfl ?_
    refine ⟨_, rfl, ⟨v2, by rw [G.out], ?_⟩, (by repeat (first | (with_reducible assumption) | (with_reducible exact Below.refl _ _) | ((with_reducible refine Below.alloc ?_ ?_ _); rotate_left; (focus (first | omega | (simp only [World.size_alloc, World.size_setCell, World.size_drew, World.heap_drewN]; first | done | omega)))) | ((with_reducible refine Below.setCell ?_ ?_ _); rotate_left; (focus (first | omega | (simp only [World.size_alloc, World.size_setCell, World.size_drew, World.heap_drewN]; first | done | omega)))) | (with_reducible refine below_drewN ?_ _) | (with_reducible refine Below.drew ?_) | ((with_reducible refine Below.trans ?_ (Below.mono (by assumption) ?_)); rotate_left; (focus (first | omega | (simp only [World.size_alloc, World.size_setCell, World.size_drew, World.heap_drewN]; first | done | omega))))))⟩
    rw [G.out]
    exact HV2.out
  · have g' : (recErr x bar ways != 0) = true := by simp [g]
    have G := Lib.hid g
    clear g
    go_enter Try.func24, Try.ntmps24
    go_wp2_with fail
    refine (HRE.out _ (by repeat (first | (with_reducible assumption) | (with_reducible exact Below.refl _ _) | ((with_reducible refine Below.alloc ?_ ?_ _); rotate_left; (focus (first | omega | (simp only [World.size_alloc, World.size_setCell, World.size_drew, World.heap_drewN]; first | done | omega)))) | ((with_reducible refine Below.setCell ?_ ?_ _); rotate_left; (focus (first | omega | (simp only [World.size_alloc, World.size_setCell, World.size_drew, World.heap_drewN]; first | done | omega)))) | (with_reducible refine below_drewN ?_ _) | (with_reducible refine Below.drew ?_) | ((with_reducible refine Below.trans ?_ (Below.mono (by assumption) ?_)); rotate_left; (focus (first | omega | (simp only [World.size_alloc, World.size_setCell, World.size_drew, World.heap_drewN]; first | done | omega))))))).mono ?_
    rintro e w1 ⟨rfl, hb1⟩
    obtain ⟨_hr1, _hr2⟩ := below_reads hb1; have _hz := Below.size hb1; (try simp only [World.size_alloc, World.size_setCell, World.size_drew, World.heap_drewN] at _hz); obtain ⟨_hr3, _hr4⟩ := below_reads (show Below w.heap.size w w1 from (by repeat (first | (with_reducible assumption) | (with_reducible exact Below.refl _ _) | ((with_reducible refine Below.alloc ?_ ?_ _); rotate_left; (focus (first | omega | (simp only [World.size_alloc, World.size_setCell, World.size_drew, World.heap_drewN]; first | done | omega)))) | ((with_reducible refine Below.setCell ?_ ?_ _); rotate_left; (focus (first | omega | (simp only [World.size_alloc, World.size_setCell, World.size_drew, World.heap_drewN]; first | done | omega)))) | (with_reducible refine below_drewN ?_ _) | (with_reducible refine Below.drew ?_) | ((with_reducible refine Below.trans ?_ (Below.mono (by assumption) ?_)); rotate_left; (focus (first | omega | (simp only [World.size_alloc, World.size_setCell, World.size_drew, World.heap_drewN]; first | done | omega))))))); have _q0 : w.heap.size < w1.heap.size := (by omega); have _q1 : w.heap.size + 1 < w1.heap.size := (by omega)
    go_wp2_with fail
    refine (HRE.out _ (by repeat (first | (with_reducible assumption) | (with_reducible exact Below.refl _ _) | ((with_reducible refine Below.alloc ?_ ?_ _); rotate_left; (focus (first | omega | (simp only [World.size_alloc, World.size_setCell, World.size_drew, World.heap_drewN]; first | done | omega)))) | ((with_reducible refine Below.setCell ?_ ?_ _); rotate_left; (focus (first | omega | (simp only [World.size_alloc, World.size_setCell, World.size_drew, World.heap_drewN]; first | done | omega)))) | (with_reducible refine below_drewN ?_ _) | (with_reducible refine Below.drew ?_) | ((with_reducible refine Below.trans ?_ (Below.mono (by assumption) ?_)); rotate_left; (focus (first | omega | (simp only [World.size_alloc, World.size_setCell, World.size_drew, World.heap_drewN]; first | done | omega))))))).mono ?_
    rintro e w2 ⟨rfl, hb2⟩
    have _q0 : w.heap.size < w2.heap.size := by have := hb2.size; omega
    have _q1 : w.heap.size + 1 < w2.heap.size := by have := hb2.size; omega
    go_wp2_with fail
    refine bodyPost_ret (v := .tuple #[.slice none 0 0, .int .i64 (recErr x bar ways)]) (by simp [results, Try.results24, go_sem, *]) rfl ?_
    refine ⟨_, rfl, ⟨_, rfl, ?_⟩, (by repeat (first | (with_reducible assumption) | (with_reducible exact Below.refl _ _) | ((with_reducible refine Below.alloc ?_ ?_ _); rotate_left; (focus (first | omega | (simp only [World.size_alloc, World.size_setCell, World.size_drew, World.heap_drewN]; first | done | omega)))) | ((with_reducible refine Below.setCell ?_ ?_ _); rotate_left; (focus (first | omega | (simp only [World.size_alloc, World.size_setCell, World.size_drew, World.heap_drewN]; first | done | omega)))) | (with_reducible refine below_drewN ?_ _) | (with_reducible refine Below.drew ?_) | ((with_reducible refine Below.trans ?_ (Below.mono (by assumption) ?_)); rotate_left; (focus (first | omega | (simp only [World.size_alloc, World.size_setCell, World.size_drew, World.heap_drewN]; first | done | omega))))))⟩
    unfold orNil
    rw [if_neg G.out]
    exact SL.nil _ _ _ _

set_option maxHeartbeats 1000000 in
theorem refCheckHistory_any (Ab As Ar Ah : Option Addr) (cb cs cr ch : Nat) (x : Works) (bar : Int) (ways hist : List Int) (B : Nat) (w : World) (h : In w B Ab As Ar cb cs cr x ways)
    (hh : IntsA .i64 w B Ah hist) (ch1 : hist.length ≤ ch) (ch2 : ch ≤ 9223372036854775807) :
    Calls Try.prog 27 #[.agg #[.slice Ab x.bars.length cb, .slice As x.steps.length cs], .agg #[.int .i64 bar, .slice Ar ways.length cr], .slice Ah hist.length ch] w
      fun e w' => e = .returned (.int .i64 (histErr x bar ways hist)) ∧ Below w.heap.size w w' := by
  have hB := h.le
  have hre : ∀ W : World, Below w.heap.size w W → Calls Try.prog 63 #[.agg #[.slice Ab x.bars.length cb, .slice As x.steps.length cs], .agg #[.int .i64 bar, .slice Ar ways.length cr]] W fun e w' => e = .returned (.int .i64 (recErr x bar ways)) ∧ Below W.heap.size W w' :=
    fun W hW => refIsRecipe_any Ab As Ar cb cs cr x bar ways B W (h.on hW hB)
  have HRE := Lib.hid hre
  clear hre
  by_cases g : recErr x bar ways = 0
  · by_cases g2 : hist.length = x.steps.length + 1
    · exact refCheckHistory_ok Ab As Ar Ah cb cs cr ch x bar ways hist B w h hh ch1 ch2 (Lib.hid g) (Lib.hid g2)
    · have R : Hid (histErr x bar ways hist = 15) := histErr_len g g2
      have hs6 := steps_few (recOk_iff.1 g).works
      have G := Lib.hid g
      have hs : IntKind.i64.wrap ((x.steps.length : Int) + 1) = (x.steps.length : Int) + 1 := IntWalk.i64_in _ (by omega)
      have g3 : ((hist.length : Int) != (x.steps.length : Int) + 1) = true := by simp; omega
      clear g g2
      go_enter Try.func27, Try.ntmps27
      go_wp2_with (go_at_call 63; refine (HRE.out _ (by repeat (first | (with_reducible assumption) | (with_reducible exact Below.refl _ _) | ((with_reducible refine Below.alloc ?_ ?_ _); rotate_left; (focus (first | omega | (simp only [World.size_alloc, World.size_setCell, World.size_drew, World.heap_drewN]; first | done | omega)))) | ((with_reducible refine Below.setCell ?_ ?_ _); rotate_left; (focus (first | omega | (simp only [World.size_alloc, World.size_setCell, World.size_drew, World.heap_drewN]; first | done | omega)))) | (with_reducible refine below_drewN ?_ _) | (with_reducible refine Below.drew ?_) | ((with_reducible refine Below.trans ?_ (Below.mono (by assumption) ?_)); rotate_left; (focus (first | omega | (simp only [World.size_alloc, World.size_setCell, World.size_drew, World.heap_drewN]; first | done | omega))))))).mono ?_; rintro e w1 ⟨rfl, hb1⟩; rw [G.out]; obtain ⟨_hr1, _hr2⟩ := below_reads hb1; have _hz := Below.size hb1; (try simp only [World.size_alloc, World.size_setCell, World.size_drew, World.heap_drewN] at _hz); obtain ⟨_hr3, _hr4⟩ := below_reads (show Below w.heap.size w w1 from (by repeat (first | (with_reducible assumption) | (with_reducible exact Below.refl _ _) | ((with_reducible refine Below.alloc ?_ ?_ _); rotate_left; (focus (first | omega | (simp only [World.size_alloc, World.size_setCell, World.size_drew, World.heap_drewN]; first | done | omega)))) | ((with_reducible refine Below.setCell ?_ ?_ _); rotate_left; (focus (first | omega | (simp only [World.size_alloc, World.size_setCell, World.size_drew, World.heap_drewN]; first | done | omega)))) | (with_reducible refine below_drewN ?_ _) | (with_reducible refine Below.drew ?_) | ((with_reducible refine Below.trans ?_ (Below.mono (by assumption) ?_)); rotate_left; (focus (first | omega | (simp only [World.size_alloc, World.size_setCell, World.size_drew, World.heap_drewN]; first | done | omega))))))); have _q0 : w.heap.size < w1.heap.size := (by omega); have _q1 : w.heap.size + 1 < w1.heap.size := (by omega))
      go_ret
      exact ⟨ret_int R.out.symm, (by repeat (first | (with_reducible assumption) | (with_reducible exact Below.refl _ _) | ((with_reducible refine Below.alloc ?_ ?_ _); rotate_left; (focus (first | omega | (simp only [World.size_alloc, World.size_setCell, World.size_drew, World.heap_drewN]; first | done | omega)))) | ((with_reducible refine Below.setCell ?_ ?_ _); rotate_left; (focus (first | omega | (simp only [World.size_alloc, World.size_setCell, World.size_drew, World.heap_drewN]; first | done | omega)))) | (with_reducible refine below_drewN ?_ _) | (with_reducible refine Below.drew ?_) | ((with_reducible refine Below.trans ?_ (Below.mono (by assumption) ?_)); rotate_left; (focus (first | omega | (simp only [World.size_alloc, World.size_setCell, World.size_drew, World.heap_drewN]; first | done | omega))))))⟩
  · have R : Hid (histErr x bar ways hist = recErr x bar ways) := histErr_rec g
    have g' : (recErr x bar ways != 0) = true := by simp [g]
    clear g
    go_enter Try.func27, Try.ntmps27
    go_wp2_with fail
    refine (HRE.out _ (by repeat (first | (with_reducible assumption) | (with_reducible exact Below.refl _ _) | ((with_reducible refine Below.alloc ?_ ?_ _); rotate_left; (focus (first | omega | (simp only [World.size_alloc, World.size_setCell, World.size_drew, World.heap_drewN]; first | done | omega)))) | ((with_reducible refine Below.setCell ?_ ?_ _); rotate_left; (focus (first | omega | (simp only [World.size_alloc, World.size_setCell, World.size_drew, World.heap_drewN]; first | done | omega)))) | (with_reducible refine below_drewN ?_ _) | (with_reducible refine Below.drew ?_) | ((with_reducible refine Below.trans ?_ (Below.mono (by assumption) ?_)); rotate_left; (focus (first | omega | (simp only [World.size_alloc, World.size_setCell, World.size_drew, World.heap_drewN]; first | done | omega))))))).mono ?_
    rintro e w1 ⟨rfl, hb1⟩
    obtain ⟨_hr1, _hr2⟩ := below_reads hb1; have _hz := Below.size hb1; (try simp only [World.size_alloc, World.size_setCell, World.size_drew, World.heap_drewN] at _hz); obtain ⟨_hr3, _hr4⟩ := below_reads (show Below w.heap.size w w1 from (by repeat (first | (with_reducible assumption) | (with_reducible exact Below.refl _ _) | ((with_reducible refine Below.alloc ?_ ?_ _); rotate_left; (focus (first | omega | (simp only [World.size_alloc, World.size_setCell, World.size_drew, World.heap_drewN]; first | done | omega)))) | ((with_reducible refine Below.setCell ?_ ?_ _); rotate_left; (focus (first | omega | (simp only [World.size_alloc, World.size_setCell, World.size_drew, World.heap_drewN]; first | done | omega)))) | (with_reducible refine below_drewN ?_ _) | (with_reducible refine Below.drew ?_) | ((with_reducible refine Below.trans ?_ (Below.mono (by assumption) ?_)); rotate_left; (focus (first | omega | (simp only [World.size_alloc, World.size_setCell, World.size_drew, World.heap_drewN]; first | done | omega))))))); have _q0 : w.heap.size < w1.heap.size := (by omega); have _q1 : w.heap.size + 1 < w1.heap.size := (by omega)
    go_wp2_with fail
    refine (HRE.out _ (by repeat (first | (with_reducible assumption) | (with_reducible exact Below.refl _ _) | ((with_reducible refine Below.alloc ?_ ?_ _); rotate_left; (focus (first | omega | (simp only [World.size_alloc, World.size_setCell, World.size_drew, World.heap_drewN]; first | done | omega)))) | ((with_reducible refine Below.setCell ?_ ?_ _); rotate_left; (focus (first | omega | (simp only [World.size_alloc, World.size_setCell, World.size_drew, World.heap_drewN]; first | done | omega)))) | (with_reducible refine below_drewN ?_ _) | (with_reducible refine Below.drew ?_) | ((with_reducible refine Below.trans ?_ (Below.mono (by assumption) ?_)); rotate_left; (focus (first | omega | (simp only [World.size_alloc, World.size_setCell, World.size_drew, World.heap_drewN]; first | done | omega))))))).mono ?_
    rintro e w2 ⟨rfl, hb2⟩
    have _q0 : w.heap.size < w2.heap.size := by have := hb2.size; omega
    have _q1 : w.heap.size + 1 < w2.heap.size := by have := hb2.size; omega
    go_wp2_with fail
    go_ret
    exact ⟨ret_int R.out.symm, (by repeat (first | (with_reducible assumption) | (with_reducible exact Below.refl _ _) | ((with_reducible refine Below.alloc ?_ ?_ _); rotate_left; (focus (first | omega | (simp only [World.size_alloc, World.size_setCell, World.size_drew, World.heap_drewN]; first | done | omega)))) | ((with_reducible refine Below.setCell ?_ ?_ _); rotate_left; (focus (first | omega | (simp only [World.size_alloc, World.size_setCell, World.size_drew, World.heap_drewN]; first | done | omega)))) | (with_reducible refine below_drewN ?_ _) | (with_reducible refine Below.drew ?_) | ((with_reducible refine Below.trans ?_ (Below.mono (by assumption) ?_)); rotate_left; (focus (first | omega | (simp only [World.size_alloc, World.size_setCell, World.size_drew, World.heap_drewN]; first | done | omega))))))⟩
end Go.Proofs.Ytigpefjeelgfdaa

/-
  Layer 1, plain: from which to which hardness histories have been; the history that is returned agrees.
-/
namespace Go.Proofs.Ytigpefjeelgfdaa
open Go.RowKit

theorem aft_bounds {x : Works} {m : Nat} {ways : List Int} (ok : RecOk x m ways) {s : Nat} (hs : s < x.steps.length) (n : Int) (hn : 0 ≤ n) : 0 ≤ (aft (wayOf x ways s) n).1 ∧ (aft (wayOf x ways s) n).1 ≤ (aft (wayOf x ways s) n).2 ∧ (aft (wayOf x ways s) n).2 ≤ 1000 := by
  have hw := way_ok (wayOf_err ok hs)
  have hz := frm_zero hw.2.2.1 hw.1
  obtain ⟨a, a1, a2, a3, a4⟩ := aftTo_idx (n := n) hw.1 (by omega) (wayOf x ways s).length hw.1 (Nat.le_refl _)
  have v := kk_val hw.2.2.1 a1
  show 0 ≤ (aftTo (wayOf x ways s) n (wayOf x ways s).length).1 ∧ _
  unfold aft
  rw [a4]
  exact ⟨v.1, v.2.1, v.2.2.1⟩

/-- Whether a recipe can have made what was measured. -/
def madeB (x : Works) (m : Nat) (ways : List Int) (mlo mhi : Int) : Bool := decide ((rngN x m ways x.steps.length).1 ≤ mhi) && decide (mlo ≤ (rngN x m ways x.steps.length).2)
theorem made_iff {x : Works} {m : Nat} {ways : List Int} (ok : RecOk x m ways) {mlo mhi : Int} (hm : isHardB mlo mhi = true) : hadAny x (rowOf x ways (barP x m)) (meas mlo mhi) = madeB x m ways mlo mhi := by
  have hv := rngN_val ok x.steps.length (Nat.le_refl _)
  rw [isHardB_iff] at hm
  rw [Bool.eq_iff_iff, hadAny_iff ok]
  simp only [madeB, Bool.and_eq_true, decide_eq_true_eq]
  constructor
  · rintro ⟨j, _, ⟨h1, h2⟩, h3, h4⟩
    omega
  · rintro ⟨h1, h2⟩
    refine ⟨(max (rngN x m ways x.steps.length).1 mlo).toNat, ?_, ⟨?_, ?_⟩, ?_, ?_⟩ <;> omega

/-- From which to which hardness. -/
def hadE (x : Works) (m : Nat) (ways : List Int) (mlo mhi : Int) (s : Nat) : Rg := (((endsOf (agrRows x m ways mlo mhi s)).1 : Int), ((endsOf (agrRows x m ways mlo mhi s)).2 : Int))
section
variable {x : Works} {m : Nat} {ways : List Int} {mlo mhi : Int}
theorem agrRows_iv (ok : RecOk x m ways) (hany : hadAny x (rowOf x ways (barP x m)) (meas mlo mhi) = true) {s : Nat} (hs : s ≤ x.steps.length) : IsIv (agrRows x m ways mlo mhi s) := (had_iv ok hany (x.steps.length - s) s (by omega)).1
theorem agrRows_in (ok : RecOk x m ways) (hany : hadAny x (rowOf x ways (barP x m)) (meas mlo mhi) = true) {s : Nat} (hs : s ≤ x.steps.length) (j : Nat) :
    agrRows x m ways mlo mhi s j = true ↔ (hadE x m ways mlo mhi s).1 ≤ j ∧ (j : Int) ≤ (hadE x m ways mlo mhi s).2 := by
  obtain ⟨_, _, h⟩ := agrRows_iv ok hany hs
  rw [h]
  simp only [ivP, decide_eq_true_eq, hadE]
  omega
theorem hadE_val (ok : RecOk x m ways) (hany : hadAny x (rowOf x ways (barP x m)) (meas mlo mhi) = true) {s : Nat} (hs : s ≤ x.steps.length) :
    (rngN x m ways s).1 ≤ (hadE x m ways mlo mhi s).1 ∧ (hadE x m ways mlo mhi s).1 ≤ (hadE x m ways mlo mhi s).2 ∧ (hadE x m ways mlo mhi s).2 ≤ (rngN x m ways s).2 ∧ 0 ≤ (hadE x m ways mlo mhi s).1 ∧ (hadE x m ways mlo mhi s).2 ≤ 1000 := by
  obtain ⟨h1, h2, h3⟩ := agrRows_iv ok hany hs
  have hsub := (had_iv ok hany (x.steps.length - s) s (by omega)).2
  have e1 := hsub (endsOf (agrRows x m ways mlo mhi s)).1 (by show agrRows x m ways mlo mhi s _ = true; rw [h3]; simp only [ivP, decide_eq_true_eq]; rw [← h3]; omega)
  have e2 := hsub (endsOf (agrRows x m ways mlo mhi s)).2 (by show agrRows x m ways mlo mhi s _ = true; rw [h3]; simp only [ivP, decide_eq_true_eq]; rw [← h3]; omega)
  rw [rowOf_sub ok hs] at e1 e2
  simp only [hadE]
  omega
theorem hadE_last (ok : RecOk x m ways) (hany : hadAny x (rowOf x ways (barP x m)) (meas mlo mhi) = true) : hadE x m ways mlo mhi x.steps.length = (max (rngN x m ways x.steps.length).1 mlo, min (rngN x m ways x.steps.length).2 mhi) := by
  have hv := rngN_val ok x.steps.length (Nat.le_refl _)
  have hb := hadE_val ok hany (Nat.le_refl x.steps.length)
  have key : ∀ j : Nat, ((hadE x m ways mlo mhi x.steps.length).1 ≤ j ∧ (j : Int) ≤ (hadE x m ways mlo mhi x.steps.length).2) ↔ ((rngN x m ways x.steps.length).1 ≤ j ∧ (j : Int) ≤ (rngN x m ways x.steps.length).2) ∧ mlo ≤ j ∧ (j : Int) ≤ mhi := fun j => by
    rw [← agrRows_in ok hany (Nat.le_refl _)]
    show hadRows x ways (rowOf x ways (barP x m)) (meas mlo mhi) x.steps.length j = true ↔ _
    rw [had_last, Bool.and_eq_true, rowOf_sub ok (Nat.le_refl _)]
    simp only [meas, inB, decide_eq_true_eq]
  generalize hadE x m ways mlo mhi x.steps.length = E at *
  generalize rngN x m ways x.steps.length = G at *
  obtain ⟨a, b⟩ := E
  obtain ⟨c, d⟩ := G
  simp only at key hv hb ⊢
  have k1 := (key a.toNat).1 (by omega)
  have k2 := (key b.toNat).1 (by omega)
  have k3 := (key (max c mlo).toNat).2 (by omega)
  have k4 := (key (min d mhi).toNat).2 (by omega)
  rw [Prod.mk.injEq]
  omega
/-- A step back. -/
theorem hadE_step (ok : RecOk x m ways) (hany : hadAny x (rowOf x ways (barP x m)) (meas mlo mhi) = true) {s : Nat} (hs : s < x.steps.length) (j : Nat) :
    ((hadE x m ways mlo mhi s).1 ≤ j ∧ (j : Int) ≤ (hadE x m ways mlo mhi s).2) ↔ ((rngN x m ways s).1 ≤ j ∧ (j : Int) ≤ (rngN x m ways s).2) ∧ (aft (wayOf x ways s) j).1 ≤ (hadE x m ways mlo mhi (s + 1)).2 ∧ (hadE x m ways mlo mhi (s + 1)).1 ≤ (aft (wayOf x ways s) j).2 := by
  rw [← agrRows_in ok hany (Nat.le_of_lt hs)]
  show hadRows x ways (rowOf x ways (barP x m)) (meas mlo mhi) s j = true ↔ _
  rw [had_step x ways _ _ hs, Bool.and_eq_true, rowOf_sub ok (Nat.le_of_lt hs)]
  have hv := rngN_val ok s (Nat.le_of_lt hs)
  have hw := way_ok (wayOf_err ok hs)
  obtain ⟨h1, h2, h3⟩ := agrRows_iv ok hany (s := s + 1) hs
  have e : hadRows x ways (rowOf x ways (barP x m)) (meas mlo mhi) (s + 1) = ivP (endsOf (agrRows x m ways mlo mhi (s + 1))).1 (endsOf (agrRows x m ways mlo mhi (s + 1))).2 := h3
  rw [e]
  constructor
  · rintro ⟨g1, g2⟩
    have ab := aft_bounds ok hs (j : Int) (by omega)
    rw [lead_iv hw.2.2.1 hw.1 h1 (by omega)] at g2
    simp only [hadE]
    omega
  · rintro ⟨g1, g2⟩
    have ab := aft_bounds ok hs (j : Int) (by omega)
    simp only [hadE] at g2
    refine ⟨g1, ?_⟩
    rw [lead_iv hw.2.2.1 hw.1 h1 (by omega)]
    omega

/-! ### the history that is returned -/
theorem firstOf_in {p : Nat → Bool} {lo hi : Nat} (h : ∃ j, lo ≤ j ∧ j ≤ hi ∧ p j = true) : ∃ j : Nat, firstOf p lo hi = j ∧ lo ≤ j ∧ j ≤ hi ∧ p j = true := by
  rcases firstOf_is p lo hi with ⟨_, h2⟩ | ⟨j, h1, h2, h3, h4, _⟩
  · obtain ⟨j, g1, g2, g3⟩ := h
    rw [h2 j g1 g2] at g3
    cases g3
  · exact ⟨j, h1, h2, h3, h4⟩
theorem hist_in (ok : RecOk x m ways) (hany : hadAny x (rowOf x ways (barP x m)) (meas mlo mhi) = true) : ∀ k, k ≤ x.steps.length →
    ∃ j : Nat, histN x m ways (agrRows x m ways mlo mhi) k = j ∧ (winN x m ways (agrRows x m ways mlo mhi) k).1 ≤ j ∧ (j : Int) ≤ (winN x m ways (agrRows x m ways mlo mhi) k).2 ∧ agrRows x m ways mlo mhi k j = true
  | 0, _ => by
    have hv := winN_val ok (agrRows x m ways mlo mhi) 0 (Nat.zero_le _)
    have hb := hadE_val ok hany (Nat.zero_le x.steps.length)
    have hr : winN x m ways (agrRows x m ways mlo mhi) 0 = rngN x m ways 0 := rfl
    obtain ⟨j, h1, h2, h3, h4⟩ := firstOf_in (p := agrRows x m ways mlo mhi 0) (lo := (winN x m ways (agrRows x m ways mlo mhi) 0).1.toNat) (hi := (winN x m ways (agrRows x m ways mlo mhi) 0).2.toNat)
      ⟨(hadE x m ways mlo mhi 0).1.toNat, by rw [hr]; omega, by rw [hr]; omega, (agrRows_in ok hany (Nat.zero_le _) _).2 ⟨by omega, by omega⟩⟩
    exact ⟨j, h1, by omega, by omega, h4⟩
  | k + 1, hk => by
    obtain ⟨i, i1, i2, i3, i4⟩ := hist_in ok hany k (by omega)
    have hv := winN_val ok (agrRows x m ways mlo mhi) (k + 1) hk
    have hb := hadE_val ok hany hk
    have hs := (hadE_step ok hany (show k < x.steps.length by omega) i).1 ((agrRows_in ok hany (by omega) i).1 i4)
    have hw : winN x m ways (agrRows x m ways mlo mhi) (k + 1) = aft (wayOf x ways k) i := by
      show aft (wayOf x ways k) (histN x m ways (agrRows x m ways mlo mhi) k) = _
      rw [i1]
    rw [hw] at hv
    obtain ⟨j, h1, h2, h3, h4⟩ := firstOf_in (p := agrRows x m ways mlo mhi (k + 1)) (lo := (winN x m ways (agrRows x m ways mlo mhi) (k + 1)).1.toNat) (hi := (winN x m ways (agrRows x m ways mlo mhi) (k + 1)).2.toNat)
      ⟨(max (aft (wayOf x ways k) i).1 (hadE x m ways mlo mhi (k + 1)).1).toNat, by rw [hw]; omega, by rw [hw]; omega, (agrRows_in ok hany hk _).2 ⟨by omega, by omega⟩⟩
    rw [hw] at h2 h3 ⊢
    exact ⟨j, h1, by omega, by omega, h4⟩
theorem histVals_at {bar : Int} {lo hi : Int} {k : Nat} (hk : k ≤ x.steps.length) : intAt (histVals x bar ways lo hi) k = histN x bar.toNat ways (agrRows x bar ways lo hi) k := by
  unfold histVals
  refine intAt_of (Lib.hid ?_)
  rw [List.getElem?_map, List.getElem?_range (by omega)]
  rfl
/-- **The history that is returned is one, and agrees.** -/
theorem histVals_ok (ok : RecOk x m ways) (hany : hadAny x (rowOf x ways (barP x m)) (meas mlo mhi) = true) : histErr x m ways (histVals x m ways mlo mhi) = 0 ∧ inB (intAt (histVals x m ways mlo mhi) x.steps.length) mlo mhi = true := by
  have at_ : ∀ k, k ≤ x.steps.length → intAt (histVals x m ways mlo mhi) k = histN x m ways (agrRows x m ways mlo mhi) k := fun k hk => histVals_at (bar := (m : Int)) hk
  have hlen : (histVals x m ways mlo mhi).length = x.steps.length + 1 := by simp [histVals]
  refine ⟨histErr_ok (recOk_iff.2 ok) hlen (allN_iff.2 fun k hk => ?_), ?_⟩
  · rw [hlen] at hk
    obtain ⟨j, h1, h2, h3, _⟩ := hist_in ok hany k (by omega)
    have hw : within x m ways (histVals x m ways mlo mhi) k = winN x m ways (agrRows x m ways mlo mhi) k := by
      rcases k with _ | k
      · rfl
      · show aft (wayOf x ways k) (intAt (histVals x m ways mlo mhi) k) = _
        rw [at_ k (by omega)]
        rfl
    unfold histOk
    rw [hw, at_ k (by omega), h1]
    simp only [inB, decide_eq_true_eq]
    exact ⟨h2, h3⟩
  · obtain ⟨j, h1, _, _, h4⟩ := hist_in ok hany x.steps.length (Nat.le_refl _)
    have h5 : hadRows x ways (rowOf x ways (barP x m)) (meas mlo mhi) x.steps.length j = true := h4
    rw [had_last, Bool.and_eq_true] at h5
    rw [at_ _ (Nat.le_refl _), h1]
    exact h5.2
end
end Go.Proofs.Ytigpefjeelgfdaa

/-
  Walks of layer 1's reference: what was measured, and whether a recipe can have made it.
-/
namespace Go.Proofs.Ytigpefjeelgfdaa
open Go.RowKit

theorem In.drop {w : World} {B : Nat} {Ab As Ar : Option Addr} {cb cs cr : Nat} {x : Works} {ways : List Int} (h : In w B Ab As Ar cb cs cr x ways) : In w B Ab As none cb cs 0 x [] :=
  ⟨h.bars, h.steps, fun h => absurd h (by simp), h.cb1, h.cb2, h.cs1, h.cs2, by simp, by omega, h.le⟩
/-- The errors of a works and of what was measured. -/
def meaErr (x : Works) (lo hi : Int) : Int := if worksErr x ≠ 0 then worksErr x else if isHardB lo hi = false then 2 else 0

set_option maxHeartbeats 1000000 in
theorem refIsMeasured_any (Ab As : Option Addr) (cb cs : Nat) (x : Works) (lo hi : Int) (B : Nat) (w : World) (h : In w B Ab As none cb cs 0 x []) :
    Calls Try.prog 74 #[.agg #[.slice Ab x.bars.length cb, .slice As x.steps.length cs], .agg #[.int .i64 lo, .int .i64 hi]] w fun e w' => e = .returned (.int .i64 (meaErr x lo hi)) ∧ Below w.heap.size w w' := by
  have hB := h.le
  have hre : ∀ W : World, Below w.heap.size w W → Calls Try.prog 22 #[.agg #[.slice Ab x.bars.length cb, .slice As x.steps.length cs]] W fun e w' => e = .returned (.int .i64 (worksErr x)) ∧ Below W.heap.size W w' :=
    fun W hW => refCheckWorks_any Ab As cb cs x B W (rgs_on h.bars hW hB) (steps_on h.steps hW hB) h.cs1 h.cs2 h.cb1 h.cb2 (Nat.le_trans hB hW.size)
  have HRE := Lib.hid hre
  clear hre
  by_cases g : worksErr x = 0
  · cases g2 : isHardB lo hi
    · have R : Hid (meaErr x lo hi = 2) := Lib.hid (by simp [meaErr, g, g2])
      have G := Lib.hid g
      have G2 := Lib.hid g2
      clear g g2
      go_enter Try.func74, Try.ntmps74
      go_wp2_with (first
        | (go_at_call 22; refine (HRE.out _ (by repeat (first | (with_reducible assumption) | (with_reducible exact Below.refl _ _) | ((with_reducible refine Below.alloc ?_ ?_ _); rotate_left; (focus (first | omega | (simp only [World.size_alloc, World.size_setCell, World.size_drew, World.heap_drewN]; first | done | omega)))) | ((with_reducible refine Below.setCell ?_ ?_ _); rotate_left; (focus (first | omega | (simp only [World.size_alloc, World.size_setCell, World.size_drew, World.heap_drewN]; first | done | omega)))) | (with_reducible refine below_drewN ?_ _) | (with_reducible refine Below.drew ?_) | ((with_reducible refine Below.trans ?_ (Below.mono (by assumption) ?_)); rotate_left; (focus (first | omega | (simp only [World.size_alloc, World.size_setCell, World.size_drew, World.heap_drewN]; first | done | omega))))))).mono ?_; rintro e w1 ⟨rfl, hb1⟩; rw [G.out]; obtain ⟨_hr1, _hr2⟩ := below_reads hb1; have _hz := Below.size hb1; (try simp only [World.size_alloc, World.size_setCell, World.size_drew, World.heap_drewN] at _hz); obtain ⟨_hr3, _hr4⟩ := below_reads (show Below w.heap.size w w1 from (by repeat (first | (with_reducible assumption) | (with_reducible exact Below.refl _ _) | ((with_reducible refine Below.alloc ?_ ?_ _); rotate_left; (focus (first | omega | (simp only [World.size_alloc, World.size_setCell, World.size_drew, World.heap_drewN]; first | done | omega)))) | ((with_reducible refine Below.setCell ?_ ?_ _); rotate_left; (focus (first | omega | (simp only [World.size_alloc, World.size_setCell, World.size_drew, World.heap_drewN]; first | done | omega)))) | (with_reducible refine below_drewN ?_ _) | (with_reducible refine Below.drew ?_) | ((with_reducible refine Below.trans ?_ (Below.mono (by assumption) ?_)); rotate_left; (focus (first | omega | (simp only [World.size_alloc, World.size_setCell, World.size_drew, World.heap_drewN]; first | done | omega))))))); have _q0 : w.heap.size < w1.heap.size := (by omega); have _q1 : w.heap.size + 1 < w1.heap.size := (by omega))
        | (go_at_call 47; refine (refIsHard_any _ _ _).mono ?_; rintro e w2 ⟨rfl, hb2⟩; rw [G2.out]; obtain ⟨_hr1, _hr2⟩ := below_reads hb2; have _hz := Below.size hb2; (try simp only [World.size_alloc, World.size_setCell, World.size_drew, World.heap_drewN] at _hz); obtain ⟨_hr3, _hr4⟩ := below_reads (show Below w.heap.size w w2 from (by repeat (first | (with_reducible assumption) | (with_reducible exact Below.refl _ _) | ((with_reducible refine Below.alloc ?_ ?_ _); rotate_left; (focus (first | omega | (simp only [World.size_alloc, World.size_setCell, World.size_drew, World.heap_drewN]; first | done | omega)))) | ((with_reducible refine Below.setCell ?_ ?_ _); rotate_left; (focus (first | omega | (simp only [World.size_alloc, World.size_setCell, World.size_drew, World.heap_drewN]; first | done | omega)))) | (with_reducible refine below_drewN ?_ _) | (with_reducible refine Below.drew ?_) | ((with_reducible refine Below.trans ?_ (Below.mono (by assumption) ?_)); rotate_left; (focus (first | omega | (simp only [World.size_alloc, World.size_setCell, World.size_drew, World.heap_drewN]; first | done | omega))))))); have _q0 : w.heap.size < w2.heap.size := (by omega); have _q1 : w.heap.size + 1 < w2.heap.size := (by omega)))
      go_ret
      exact ⟨ret_int R.out.symm, (by repeat (first | (with_reducible assumption) | (with_reducible exact Below.refl _ _) | ((with_reducible refine Below.alloc ?_ ?_ _); rotate_left; (focus (first | omega | (simp only [World.size_alloc, World.size_setCell, World.size_drew, World.heap_drewN]; first | done | omega)))) | ((with_reducible refine Below.setCell ?_ ?_ _); rotate_left; (focus (first | omega | (simp only [World.size_alloc, World.size_setCell, World.size_drew, World.heap_drewN]; first | done | omega)))) | (with_reducible refine below_drewN ?_ _) | (with_reducible refine Below.drew ?_) | ((with_reducible refine Below.trans ?_ (Below.mono (by assumption) ?_)); rotate_left; (focus (first | omega | (simp only [World.size_alloc, World.size_setCell, World.size_drew, World.heap_drewN]; first | done | omega))))))⟩
    · have R : Hid (meaErr x lo hi = 0) := Lib.hid (by simp [meaErr, g, g2])
      have G := Lib.hid g
      have G2 := Lib.hid g2
      clear g g2
      go_enter Try.func74, Try.ntmps74
      go_wp2_with (first
        | (go_at_call 22; refine (HRE.out _ (by repeat (first | (with_reducible assumption) | (with_reducible exact Below.refl _ _) | ((with_reducible refine Below.alloc ?_ ?_ _); rotate_left; (focus (first | omega | (simp only [World.size_alloc, World.size_setCell, World.size_drew, World.heap_drewN]; first | done | omega)))) | ((with_reducible refine Below.setCell ?_ ?_ _); rotate_left; (focus (first | omega | (simp only [World.size_alloc, World.size_setCell, World.size_drew, World.heap_drewN]; first | done | omega)))) | (with_reducible refine below_drewN ?_ _) | (with_reducible refine Below.drew ?_) | ((with_reducible refine Below.trans ?_ (Below.mono (by assumption) ?_)); rotate_left; (focus (first | omega | (simp only [World.size_alloc, World.size_setCell, World.size_drew, World.heap_drewN]; first | done | omega))))))).mono ?_; rintro e w1 ⟨rfl, hb1⟩; rw [G.out]; obtain ⟨_hr1, _hr2⟩ := below_reads hb1; have _hz := Below.size hb1; (try simp only [World.size_alloc, World.size_setCell, World.size_drew, World.heap_drewN] at _hz); obtain ⟨_hr3, _hr4⟩ := below_reads (show Below w.heap.size w w1 from (by repeat (first | (with_reducible assumption) | (with_reducible exact Below.refl _ _) | ((with_reducible refine Below.alloc ?_ ?_ _); rotate_left; (focus (first | omega | (simp only [World.size_alloc, World.size_setCell, World.size_drew, World.heap_drewN]; first | done | omega)))) | ((with_reducible refine Below.setCell ?_ ?_ _); rotate_left; (focus (first | omega | (simp only [World.size_alloc, World.size_setCell, World.size_drew, World.heap_drewN]; first | done | omega)))) | (with_reducible refine below_drewN ?_ _) | (with_reducible refine Below.drew ?_) | ((with_reducible refine Below.trans ?_ (Below.mono (by assumption) ?_)); rotate_left; (focus (first | omega | (simp only [World.size_alloc, World.size_setCell, World.size_drew, World.heap_drewN]; first | done | omega))))))); have _q0 : w.heap.size < w1.heap.size := (by omega); have _q1 : w.heap.size + 1 < w1.heap.size := (by omega))
        | (go_at_call 47; refine (refIsHard_any _ _ _).mono ?_; rintro e w2 ⟨rfl, hb2⟩; rw [G2.out]; obtain ⟨_hr1, _hr2⟩ := below_reads hb2; have _hz := Below.size hb2; (try simp only [World.size_alloc, World.size_setCell, World.size_drew, World.heap_drewN] at _hz); obtain ⟨_hr3, _hr4⟩ := below_reads (show Below w.heap.size w w2 from (by repeat (first | (with_reducible assumption) | (with_reducible exact Below.refl _ _) | ((with_reducible refine Below.alloc ?_ ?_ _); rotate_left; (focus (first | omega | (simp only [World.size_alloc, World.size_setCell, World.size_drew, World.heap_drewN]; first | done | omega)))) | ((with_reducible refine Below.setCell ?_ ?_ _); rotate_left; (focus (first | omega | (simp only [World.size_alloc, World.size_setCell, World.size_drew, World.heap_drewN]; first | done | omega)))) | (with_reducible refine below_drewN ?_ _) | (with_reducible refine Below.drew ?_) | ((with_reducible refine Below.trans ?_ (Below.mono (by assumption) ?_)); rotate_left; (focus (first | omega | (simp only [World.size_alloc, World.size_setCell, World.size_drew, World.heap_drewN]; first | done | omega))))))); have _q0 : w.heap.size < w2.heap.size := (by omega); have _q1 : w.heap.size + 1 < w2.heap.size := (by omega)))
      go_ret
      exact ⟨ret_int R.out.symm, (by repeat (first | (with_reducible assumption) | (with_reducible exact Below.refl _ _) | ((with_reducible refine Below.alloc ?_ ?_ _); rotate_left; (focus (first | omega | (simp only [World.size_alloc, World.size_setCell, World.size_drew, World.heap_drewN]; first | done | omega)))) | ((with_reducible refine Below.setCell ?_ ?_ _); rotate_left; (focus (first | omega | (simp only [World.size_alloc, World.size_setCell, World.size_drew, World.heap_drewN]; first | done | omega)))) | (with_reducible refine below_drewN ?_ _) | (with_reducible refine Below.drew ?_) | ((with_reducible refine Below.trans ?_ (Below.mono (by assumption) ?_)); rotate_left; (focus (first | omega | (simp only [World.size_alloc, World.size_setCell, World.size_drew, World.heap_drewN]; first | done | omega))))))⟩
  · have R : Hid (meaErr x lo hi = worksErr x) := Lib.hid (by simp [meaErr, g])
    have g' : (worksErr x != 0) = true := by simp [g]
    clear g
    go_enter Try.func74, Try.ntmps74
    go_wp2_with fail
    refine (HRE.out _ (by repeat (first | (with_reducible assumption) | (with_reducible exact Below.refl _ _) | ((with_reducible refine Below.alloc ?_ ?_ _); rotate_left; (focus (first | omega | (simp only [World.size_alloc, World.size_setCell, World.size_drew, World.heap_drewN]; first | done | omega)))) | ((with_reducible refine Below.setCell ?_ ?_ _); rotate_left; (focus (first | omega | (simp only [World.size_alloc, World.size_setCell, World.size_drew, World.heap_drewN]; first | done | omega)))) | (with_reducible refine below_drewN ?_ _) | (with_reducible refine Below.drew ?_) | ((with_reducible refine Below.trans ?_ (Below.mono (by assumption) ?_)); rotate_left; (focus (first | omega | (simp only [World.size_alloc, World.size_setCell, World.size_drew, World.heap_drewN]; first | done | omega))))))).mono ?_
    rintro e w1 ⟨rfl, hb1⟩
    obtain ⟨_hr1, _hr2⟩ := below_reads hb1; have _hz := Below.size hb1; (try simp only [World.size_alloc, World.size_setCell, World.size_drew, World.heap_drewN] at _hz); obtain ⟨_hr3, _hr4⟩ := below_reads (show Below w.heap.size w w1 from (by repeat (first | (with_reducible assumption) | (with_reducible exact Below.refl _ _) | ((with_reducible refine Below.alloc ?_ ?_ _); rotate_left; (focus (first | omega | (simp only [World.size_alloc, World.size_setCell, World.size_drew, World.heap_drewN]; first | done | omega)))) | ((with_reducible refine Below.setCell ?_ ?_ _); rotate_left; (focus (first | omega | (simp only [World.size_alloc, World.size_setCell, World.size_drew, World.heap_drewN]; first | done | omega)))) | (with_reducible refine below_drewN ?_ _) | (with_reducible refine Below.drew ?_) | ((with_reducible refine Below.trans ?_ (Below.mono (by assumption) ?_)); rotate_left; (focus (first | omega | (simp only [World.size_alloc, World.size_setCell, World.size_drew, World.heap_drewN]; first | done | omega))))))); have _q0 : w.heap.size < w1.heap.size := (by omega); have _q1 : w.heap.size + 1 < w1.heap.size := (by omega)
    go_wp2_with fail
    refine (HRE.out _ (by repeat (first | (with_reducible assumption) | (with_reducible exact Below.refl _ _) | ((with_reducible refine Below.alloc ?_ ?_ _); rotate_left; (focus (first | omega | (simp only [World.size_alloc, World.size_setCell, World.size_drew, World.heap_drewN]; first | done | omega)))) | ((with_reducible refine Below.setCell ?_ ?_ _); rotate_left; (focus (first | omega | (simp only [World.size_alloc, World.size_setCell, World.size_drew, World.heap_drewN]; first | done | omega)))) | (with_reducible refine below_drewN ?_ _) | (with_reducible refine Below.drew ?_) | ((with_reducible refine Below.trans ?_ (Below.mono (by assumption) ?_)); rotate_left; (focus (first | omega | (simp only [World.size_alloc, World.size_setCell, World.size_drew, World.heap_drewN]; first | done | omega))))))).mono ?_
    rintro e w2 ⟨rfl, hb2⟩
    have _q0 : w.heap.size < w2.heap.size := by have := hb2.size; omega
    have _q1 : w.heap.size + 1 < w2.heap.size := by have := hb2.size; omega
    go_wp2_with fail
    go_ret
    exact ⟨ret_int R.out.symm, (by repeat (first | (with_reducible assumption) | (with_reducible exact Below.refl _ _) | ((with_reducible refine Below.alloc ?_ ?_ _); rotate_left; (focus (first | omega | (simp only [World.size_alloc, World.size_setCell, World.size_drew, World.heap_drewN]; first | done | omega)))) | ((with_reducible refine Below.setCell ?_ ?_ _); rotate_left; (focus (first | omega | (simp only [World.size_alloc, World.size_setCell, World.size_drew, World.heap_drewN]; first | done | omega)))) | (with_reducible refine below_drewN ?_ _) | (with_reducible refine Below.drew ?_) | ((with_reducible refine Below.trans ?_ (Below.mono (by assumption) ?_)); rotate_left; (focus (first | omega | (simp only [World.size_alloc, World.size_setCell, World.size_drew, World.heap_drewN]; first | done | omega))))))⟩

set_option maxHeartbeats 1000000 in
theorem refMade_ok (Ab As Ar : Option Addr) (cb cs cr : Nat) (x : Works) (m : Nat) (ways : List Int) (lo hi : Int) (B : Nat) (w : World) (h : In w B Ab As Ar cb cs cr x ways) (ok : RecOk x (m : Int) ways) :
    Calls Try.prog 97 #[.agg #[.slice Ab x.bars.length cb, .slice As x.steps.length cs], .agg #[.int .i64 m, .slice Ar ways.length cr], .agg #[.int .i64 lo, .int .i64 hi]] w fun e w' => e = .returned (.bool (madeB x m ways lo hi)) ∧ Below w.heap.size w w' := by
  have hB := h.le
  have hrr : ∀ W : World, Below w.heap.size w W → CallsF 64 #[.agg #[.slice Ab x.bars.length cb, .slice As x.steps.length cs], .agg #[.int .i64 m, .slice Ar ways.length cr]] W (Fact.rgs ((List.range (x.steps.length + 1)).map (rngN x m ways))) :=
    fun W hW => refranges_ok Ab As Ar cb cs cr x m ways B W (h.on hW hB) ok
  have HRR := Lib.hid hrr
  have hs6 := steps_few ok.works
  obtain ⟨a, b, hab⟩ : ∃ a b, rngN x m ways x.steps.length = (a, b) := ⟨_, _, rfl⟩
  have E : Hid (madeB x m ways lo hi = (decide (a ≤ hi) && decide (lo ≤ b))) := Lib.hid (by simp only [madeB, hab])
  have HAB := Lib.hid hab
  clear hrr hab
  have key : ∀ (W : World) (v : Value), Rgs W W.heap.size v ((List.range (x.steps.length + 1)).map (rngN x m ways)) → ∃ (g o c : Nat), v = .slice (some ⟨g, o, none⟩) (x.steps.length + 1) c ∧ g < W.heap.size ∧ x.steps.length + 1 ≤ c ∧ W.cell? ⟨g, o + x.steps.length * 2, none⟩ = some (.int .i64 a) ∧ W.cell? ⟨g, o + x.steps.length * 2 + 1, none⟩ = some (.int .i64 b) := by
    intro W v hv
    obtain ⟨A, c, rfl, h1, h2, h3⟩ := hv
    obtain ⟨g, o, hA, hlt, hx⟩ := h3 (by simp)
    subst hA
    have := hx x.steps.length (rngN x m ways x.steps.length) (by rw [List.getElem?_map, List.getElem?_range (by omega)]; rfl)
    rw [HAB.out] at this
    exact ⟨g, o, c, by simp, hlt, by simpa using h1, this.1, this.2⟩
  have KEY := Lib.hid key
  clear key
  have s0 : (0 : Int) ≤ (x.steps.length : Int) := by omega
  by_cases c1 : a ≤ hi
  · by_cases c2 : lo ≤ b
    · have R : Hid (madeB x m ways lo hi = true) := Lib.hid (by rw [E.out, decide_eq_true c1, decide_eq_true c2]; rfl)
      go_enter Try.func97, Try.ntmps97
      go_wp2_with (go_at_call 64; refine Calls.mono (HRR.out _ (by repeat (first | (with_reducible assumption) | (with_reducible exact Below.refl _ _) | ((with_reducible refine Below.alloc ?_ ?_ _); rotate_left; (focus (first | omega | (simp only [World.size_alloc, World.size_setCell, World.size_drew, World.heap_drewN]; first | done | omega)))) | ((with_reducible refine Below.setCell ?_ ?_ _); rotate_left; (focus (first | omega | (simp only [World.size_alloc, World.size_setCell, World.size_drew, World.heap_drewN]; first | done | omega)))) | (with_reducible refine below_drewN ?_ _) | (with_reducible refine Below.drew ?_) | ((with_reducible refine Below.trans ?_ (Below.mono (by assumption) ?_)); rotate_left; (focus (first | omega | (simp only [World.size_alloc, World.size_setCell, World.size_drew, World.heap_drewN]; first | done | omega))))))) ?_; rintro e w2 ⟨v2, rfl, hv2, hb2⟩; obtain ⟨g, o, c, rfl, k1, k2, k3, k4⟩ := KEY.out _ _ hv2; clear hv2; obtain ⟨_hr1, _hr2⟩ := below_reads hb2; have _hz := Below.size hb2; (try simp only [World.size_alloc, World.size_setCell, World.size_drew, World.heap_drewN] at _hz); obtain ⟨_hr3, _hr4⟩ := below_reads (show Below w.heap.size w w2 from (by repeat (first | (with_reducible assumption) | (with_reducible exact Below.refl _ _) | ((with_reducible refine Below.alloc ?_ ?_ _); rotate_left; (focus (first | omega | (simp only [World.size_alloc, World.size_setCell, World.size_drew, World.heap_drewN]; first | done | omega)))) | ((with_reducible refine Below.setCell ?_ ?_ _); rotate_left; (focus (first | omega | (simp only [World.size_alloc, World.size_setCell, World.size_drew, World.heap_drewN]; first | done | omega)))) | (with_reducible refine below_drewN ?_ _) | (with_reducible refine Below.drew ?_) | ((with_reducible refine Below.trans ?_ (Below.mono (by assumption) ?_)); rotate_left; (focus (first | omega | (simp only [World.size_alloc, World.size_setCell, World.size_drew, World.heap_drewN]; first | done | omega))))))); have _q0 : w.heap.size < w2.heap.size := (by omega); have _q1 : w.heap.size + 1 < w2.heap.size := (by omega); have _q2 : w.heap.size + 1 + 1 < w2.heap.size := (by omega))
      go_ret
      exact ⟨ret_bool R.out.symm, (by repeat (first | (with_reducible assumption) | (with_reducible exact Below.refl _ _) | ((with_reducible refine Below.alloc ?_ ?_ _); rotate_left; (focus (first | omega | (simp only [World.size_alloc, World.size_setCell, World.size_drew, World.heap_drewN]; first | done | omega)))) | ((with_reducible refine Below.setCell ?_ ?_ _); rotate_left; (focus (first | omega | (simp only [World.size_alloc, World.size_setCell, World.size_drew, World.heap_drewN]; first | done | omega)))) | (with_reducible refine below_drewN ?_ _) | (with_reducible refine Below.drew ?_) | ((with_reducible refine Below.trans ?_ (Below.mono (by assumption) ?_)); rotate_left; (focus (first | omega | (simp only [World.size_alloc, World.size_setCell, World.size_drew, World.heap_drewN]; first | done | omega))))))⟩
    · have R : Hid (madeB x m ways lo hi = false) := Lib.hid (by rw [E.out, decide_eq_true c1, decide_eq_false c2]; rfl)
      go_enter Try.func97, Try.ntmps97
      go_wp2_with (go_at_call 64; refine Calls.mono (HRR.out _ (by repeat (first | (with_reducible assumption) | (with_reducible exact Below.refl _ _) | ((with_reducible refine Below.alloc ?_ ?_ _); rotate_left; (focus (first | omega | (simp only [World.size_alloc, World.size_setCell, World.size_drew, World.heap_drewN]; first | done | omega)))) | ((with_reducible refine Below.setCell ?_ ?_ _); rotate_left; (focus (first | omega | (simp only [World.size_alloc, World.size_setCell, World.size_drew, World.heap_drewN]; first | done | omega)))) | (with_reducible refine below_drewN ?_ _) | (with_reducible refine Below.drew ?_) | ((with_reducible refine Below.trans ?_ (Below.mono (by assumption) ?_)); rotate_left; (focus (first | omega | (simp only [World.size_alloc, World.size_setCell, World.size_drew, World.heap_drewN]; first | done | omega))))))) ?_; rintro e w2 ⟨v2, rfl, hv2, hb2⟩; obtain ⟨g, o, c, rfl, k1, k2, k3, k4⟩ := KEY.out _ _ hv2; clear hv2; obtain ⟨_hr1, _hr2⟩ := below_reads hb2; have _hz := Below.size hb2; (try simp only [World.size_alloc, World.size_setCell, World.size_drew, World.heap_drewN] at _hz); obtain ⟨_hr3, _hr4⟩ := below_reads (show Below w.heap.size w w2 from (by repeat (first | (with_reducible assumption) | (with_reducible exact Below.refl _ _) | ((with_reducible refine Below.alloc ?_ ?_ _); rotate_left; (focus (first | omega | (simp only [World.size_alloc, World.size_setCell, World.size_drew, World.heap_drewN]; first | done | omega)))) | ((with_reducible refine Below.setCell ?_ ?_ _); rotate_left; (focus (first | omega | (simp only [World.size_alloc, World.size_setCell, World.size_drew, World.heap_drewN]; first | done | omega)))) | (with_reducible refine below_drewN ?_ _) | (with_reducible refine Below.drew ?_) | ((with_reducible refine Below.trans ?_ (Below.mono (by assumption) ?_)); rotate_left; (focus (first | omega | (simp only [World.size_alloc, World.size_setCell, World.size_drew, World.heap_drewN]; first | done | omega))))))); have _q0 : w.heap.size < w2.heap.size := (by omega); have _q1 : w.heap.size + 1 < w2.heap.size := (by omega); have _q2 : w.heap.size + 1 + 1 < w2.heap.size := (by omega))
      go_ret
      exact ⟨ret_bool (by rw [E.out, decide_eq_true c1]; rfl), (by repeat (first | (with_reducible assumption) | (with_reducible exact Below.refl _ _) | ((with_reducible refine Below.alloc ?_ ?_ _); rotate_left; (focus (first | omega | (simp only [World.size_alloc, World.size_setCell, World.size_drew, World.heap_drewN]; first | done | omega)))) | ((with_reducible refine Below.setCell ?_ ?_ _); rotate_left; (focus (first | omega | (simp only [World.size_alloc, World.size_setCell, World.size_drew, World.heap_drewN]; first | done | omega)))) | (with_reducible refine below_drewN ?_ _) | (with_reducible refine Below.drew ?_) | ((with_reducible refine Below.trans ?_ (Below.mono (by assumption) ?_)); rotate_left; (focus (first | omega | (simp only [World.size_alloc, World.size_setCell, World.size_drew, World.heap_drewN]; first | done | omega))))))⟩
  · have R : Hid (madeB x m ways lo hi = false) := Lib.hid (by rw [E.out, decide_eq_false c1]; rfl)
    go_enter Try.func97, Try.ntmps97
    go_wp2_with (go_at_call 64; refine Calls.mono (HRR.out _ (by repeat (first | (with_reducible assumption) | (with_reducible exact Below.refl _ _) | ((with_reducible refine Below.alloc ?_ ?_ _); rotate_left; (focus (first | omega | (simp only [World.size_alloc, World.size_setCell, World.size_drew, World.heap_drewN]; first | done | omega)))) | ((with_reducible refine Below.setCell ?_ ?_ _); rotate_left; (focus (first | omega | (simp only [World.size_alloc, World.size_setCell, World.size_drew, World.heap_drewN]; first | done | omega)))) | (with_reducible refine below_drewN ?_ _) | (with_reducible refine Below.drew ?_) | ((with_reducible refine Below.trans ?_ (Below.mono (by assumption) ?_)); rotate_left; (focus (first | omega | (simp only [World.size_alloc, World.size_setCell, World.size_drew, World.heap_drewN]; first | done | omega))))))) ?_; rintro e w2 ⟨v2, rfl, hv2, hb2⟩; obtain ⟨g, o, c, rfl, k1, k2, k3, k4⟩ := KEY.out _ _ hv2; clear hv2; obtain ⟨_hr1, _hr2⟩ := below_reads hb2; have _hz := Below.size hb2; (try simp only [World.size_alloc, World.size_setCell, World.size_drew, World.heap_drewN] at _hz); obtain ⟨_hr3, _hr4⟩ := below_reads (show Below w.heap.size w w2 from (by repeat (first | (with_reducible assumption) | (with_reducible exact Below.refl _ _) | ((with_reducible refine Below.alloc ?_ ?_ _); rotate_left; (focus (first | omega | (simp only [World.size_alloc, World.size_setCell, World.size_drew, World.heap_drewN]; first | done | omega)))) | ((with_reducible refine Below.setCell ?_ ?_ _); rotate_left; (focus (first | omega | (simp only [World.size_alloc, World.size_setCell, World.size_drew, World.heap_drewN]; first | done | omega)))) | (with_reducible refine below_drewN ?_ _) | (with_reducible refine Below.drew ?_) | ((with_reducible refine Below.trans ?_ (Below.mono (by assumption) ?_)); rotate_left; (focus (first | omega | (simp only [World.size_alloc, World.size_setCell, World.size_drew, World.heap_drewN]; first | done | omega))))))); have _q0 : w.heap.size < w2.heap.size := (by omega); have _q1 : w.heap.size + 1 < w2.heap.size := (by omega); have _q2 : w.heap.size + 1 + 1 < w2.heap.size := (by omega))
    go_ret
    exact ⟨ret_bool R.out.symm, (by repeat (first | (with_reducible assumption) | (with_reducible exact Below.refl _ _) | ((with_reducible refine Below.alloc ?_ ?_ _); rotate_left; (focus (first | omega | (simp only [World.size_alloc, World.size_setCell, World.size_drew, World.heap_drewN]; first | done | omega)))) | ((with_reducible refine Below.setCell ?_ ?_ _); rotate_left; (focus (first | omega | (simp only [World.size_alloc, World.size_setCell, World.size_drew, World.heap_drewN]; first | done | omega)))) | (with_reducible refine below_drewN ?_ _) | (with_reducible refine Below.drew ?_) | ((with_reducible refine Below.trans ?_ (Below.mono (by assumption) ?_)); rotate_left; (focus (first | omega | (simp only [World.size_alloc, World.size_setCell, World.size_drew, World.heap_drewN]; first | done | omega))))))⟩

set_option maxHeartbeats 1000000 in
theorem refHadError_any (Ab As Ar : Option Addr) (cb cs cr : Nat) (x : Works) (bar : Int) (ways : List Int) (lo hi : Int) (B : Nat) (w : World) (h : In w B Ab As Ar cb cs cr x ways) :
    Calls Try.prog 67 #[.agg #[.slice Ab x.bars.length cb, .slice As x.steps.length cs], .agg #[.int .i64 bar, .slice Ar ways.length cr], .agg #[.int .i64 lo, .int .i64 hi]] w fun e w' => e = .returned (.int .i64 (agrErr x bar ways lo hi)) ∧ Below w.heap.size w w' := by
  have hB := h.le
  have hre : ∀ W : World, Below w.heap.size w W → Calls Try.prog 63 #[.agg #[.slice Ab x.bars.length cb, .slice As x.steps.length cs], .agg #[.int .i64 bar, .slice Ar ways.length cr]] W fun e w' => e = .returned (.int .i64 (recErr x bar ways)) ∧ Below W.heap.size W w' :=
    fun W hW => refIsRecipe_any Ab As Ar cb cs cr x bar ways B W (h.on hW hB)
  have HRE := Lib.hid hre
  have hme : ∀ W : World, Below w.heap.size w W → Calls Try.prog 74 #[.agg #[.slice Ab x.bars.length cb, .slice As x.steps.length cs], .agg #[.int .i64 lo, .int .i64 hi]] W fun e w' => e = .returned (.int .i64 (meaErr x lo hi)) ∧ Below W.heap.size W w' :=
    fun W hW => refIsMeasured_any Ab As cb cs x lo hi B W (h.on hW hB).drop
  have HME := Lib.hid hme
  clear hre hme
  by_cases g : recErr x bar ways = 0
  · have ok := recOk_iff.1 g
    obtain ⟨m, hbar⟩ := Int.eq_ofNat_of_zero_le ok.bar0
    subst hbar
    have hma : ∀ W : World, Below w.heap.size w W → Calls Try.prog 97 #[.agg #[.slice Ab x.bars.length cb, .slice As x.steps.length cs], .agg #[.int .i64 m, .slice Ar ways.length cr], .agg #[.int .i64 lo, .int .i64 hi]] W fun e w' => e = .returned (.bool (madeB x m ways lo hi)) ∧ Below W.heap.size W w' :=
      fun W hW => refMade_ok Ab As Ar cb cs cr x m ways lo hi B W (h.on hW hB) ok
    have HMA := Lib.hid hma
    clear hma
    have G := Lib.hid g
    cases g2 : isHardB lo hi
    · have M : Hid (meaErr x lo hi = 2) := Lib.hid (by simp [meaErr, ok.works, g2])
      have R : Hid (agrErr x m ways lo hi = 2) := Lib.hid (by simp [agrErr, g, g2])
      clear g g2 ok
      go_enter Try.func67, Try.ntmps67
      go_wp2_with (first
        | (go_at_call 63; refine (HRE.out _ (by repeat (first | (with_reducible assumption) | (with_reducible exact Below.refl _ _) | ((with_reducible refine Below.alloc ?_ ?_ _); rotate_left; (focus (first | omega | (simp only [World.size_alloc, World.size_setCell, World.size_drew, World.heap_drewN]; first | done | omega)))) | ((with_reducible refine Below.setCell ?_ ?_ _); rotate_left; (focus (first | omega | (simp only [World.size_alloc, World.size_setCell, World.size_drew, World.heap_drewN]; first | done | omega)))) | (with_reducible refine below_drewN ?_ _) | (with_reducible refine Below.drew ?_) | ((with_reducible refine Below.trans ?_ (Below.mono (by assumption) ?_)); rotate_left; (focus (first | omega | (simp only [World.size_alloc, World.size_setCell, World.size_drew, World.heap_drewN]; first | done | omega))))))).mono ?_; rintro e w1 ⟨rfl, hb1⟩; rw [G.out]; obtain ⟨_hr1, _hr2⟩ := below_reads hb1; have _hz := Below.size hb1; (try simp only [World.size_alloc, World.size_setCell, World.size_drew, World.heap_drewN] at _hz); obtain ⟨_hr3, _hr4⟩ := below_reads (show Below w.heap.size w w1 from (by repeat (first | (with_reducible assumption) | (with_reducible exact Below.refl _ _) | ((with_reducible refine Below.alloc ?_ ?_ _); rotate_left; (focus (first | omega | (simp only [World.size_alloc, World.size_setCell, World.size_drew, World.heap_drewN]; first | done | omega)))) | ((with_reducible refine Below.setCell ?_ ?_ _); rotate_left; (focus (first | omega | (simp only [World.size_alloc, World.size_setCell, World.size_drew, World.heap_drewN]; first | done | omega)))) | (with_reducible refine below_drewN ?_ _) | (with_reducible refine Below.drew ?_) | ((with_reducible refine Below.trans ?_ (Below.mono (by assumption) ?_)); rotate_left; (focus (first | omega | (simp only [World.size_alloc, World.size_setCell, World.size_drew, World.heap_drewN]; first | done | omega))))))); have _q0 : w.heap.size < w1.heap.size := (by omega); have _q1 : w.heap.size + 1 < w1.heap.size := (by omega); have _q2 : w.heap.size + 1 + 1 < w1.heap.size := (by omega))
        | (go_at_call 74; refine (HME.out _ (by repeat (first | (with_reducible assumption) | (with_reducible exact Below.refl _ _) | ((with_reducible refine Below.alloc ?_ ?_ _); rotate_left; (focus (first | omega | (simp only [World.size_alloc, World.size_setCell, World.size_drew, World.heap_drewN]; first | done | omega)))) | ((with_reducible refine Below.setCell ?_ ?_ _); rotate_left; (focus (first | omega | (simp only [World.size_alloc, World.size_setCell, World.size_drew, World.heap_drewN]; first | done | omega)))) | (with_reducible refine below_drewN ?_ _) | (with_reducible refine Below.drew ?_) | ((with_reducible refine Below.trans ?_ (Below.mono (by assumption) ?_)); rotate_left; (focus (first | omega | (simp only [World.size_alloc, World.size_setCell, World.size_drew, World.heap_drewN]; first | done | omega))))))).mono ?_; rintro e w2 ⟨rfl, hb2⟩; rw [M.out]; obtain ⟨_hr1, _hr2⟩ := below_reads hb2; have _hz := Below.size hb2; (try simp only [World.size_alloc, World.size_setCell, World.size_drew, World.heap_drewN] at _hz); obtain ⟨_hr3, _hr4⟩ := below_reads (show Below w.heap.size w w2 from (by repeat (first | (with_reducible assumption) | (with_reducible exact Below.refl _ _) | ((with_reducible refine Below.alloc ?_ ?_ _); rotate_left; (focus (first | omega | (simp only [World.size_alloc, World.size_setCell, World.size_drew, World.heap_drewN]; first | done | omega)))) | ((with_reducible refine Below.setCell ?_ ?_ _); rotate_left; (focus (first | omega | (simp only [World.size_alloc, World.size_setCell, World.size_drew, World.heap_drewN]; first | done | omega)))) | (with_reducible refine below_drewN ?_ _) | (with_reducible refine Below.drew ?_) | ((with_reducible refine Below.trans ?_ (Below.mono (by assumption) ?_)); rotate_left; (focus (first | omega | (simp only [World.size_alloc, World.size_setCell, World.size_drew, World.heap_drewN]; first | done | omega))))))); have _q0 : w.heap.size < w2.heap.size := (by omega); have _q1 : w.heap.size + 1 < w2.heap.size := (by omega); have _q2 : w.heap.size + 1 + 1 < w2.heap.size := (by omega)))
      go_ret
      exact ⟨ret_int R.out.symm, (by repeat (first | (with_reducible assumption) | (with_reducible exact Below.refl _ _) | ((with_reducible refine Below.alloc ?_ ?_ _); rotate_left; (focus (first | omega | (simp only [World.size_alloc, World.size_setCell, World.size_drew, World.heap_drewN]; first | done | omega)))) | ((with_reducible refine Below.setCell ?_ ?_ _); rotate_left; (focus (first | omega | (simp only [World.size_alloc, World.size_setCell, World.size_drew, World.heap_drewN]; first | done | omega)))) | (with_reducible refine below_drewN ?_ _) | (with_reducible refine Below.drew ?_) | ((with_reducible refine Below.trans ?_ (Below.mono (by assumption) ?_)); rotate_left; (focus (first | omega | (simp only [World.size_alloc, World.size_setCell, World.size_drew, World.heap_drewN]; first | done | omega))))))⟩
    · have M : Hid (meaErr x lo hi = 0) := Lib.hid (by simp [meaErr, ok.works, g2])
      have hmade := made_iff ok g2
      cases g3 : madeB x m ways lo hi
      · have R : Hid (agrErr x m ways lo hi = 17) := Lib.hid (by
          have : hadAny x (recRows x m ways) (meas lo hi) = false := hmade.trans g3
          simp [agrErr, g, g2, this])
        have G3 := Lib.hid g3
        clear g g2 g3 ok hmade
        go_enter Try.func67, Try.ntmps67
        go_wp2_with (first
          | (go_at_call 63; refine (HRE.out _ (by repeat (first | (with_reducible assumption) | (with_reducible exact Below.refl _ _) | ((with_reducible refine Below.alloc ?_ ?_ _); rotate_left; (focus (first | omega | (simp only [World.size_alloc, World.size_setCell, World.size_drew, World.heap_drewN]; first | done | omega)))) | ((with_reducible refine Below.setCell ?_ ?_ _); rotate_left; (focus (first | omega | (simp only [World.size_alloc, World.size_setCell, World.size_drew, World.heap_drewN]; first | done | omega)))) | (with_reducible refine below_drewN ?_ _) | (with_reducible refine Below.drew ?_) | ((with_reducible refine Below.trans ?_ (Below.mono (by assumption) ?_)); rotate_left; (focus (first | omega | (simp only [World.size_alloc, World.size_setCell, World.size_drew, World.heap_drewN]; first | done | omega))))))).mono ?_; rintro e w1 ⟨rfl, hb1⟩; rw [G.out]; obtain ⟨_hr1, _hr2⟩ := below_reads hb1; have _hz := Below.size hb1; (try simp only [World.size_alloc, World.size_setCell, World.size_drew, World.heap_drewN] at _hz); obtain ⟨_hr3, _hr4⟩ := below_reads (show Below w.heap.size w w1 from (by repeat (first | (with_reducible assumption) | (with_reducible exact Below.refl _ _) | ((with_reducible refine Below.alloc ?_ ?_ _); rotate_left; (focus (first | omega | (simp only [World.size_alloc, World.size_setCell, World.size_drew, World.heap_drewN]; first | done | omega)))) | ((with_reducible refine Below.setCell ?_ ?_ _); rotate_left; (focus (first | omega | (simp only [World.size_alloc, World.size_setCell, World.size_drew, World.heap_drewN]; first | done | omega)))) | (with_reducible refine below_drewN ?_ _) | (with_reducible refine Below.drew ?_) | ((with_reducible refine Below.trans ?_ (Below.mono (by assumption) ?_)); rotate_left; (focus (first | omega | (simp only [World.size_alloc, World.size_setCell, World.size_drew, World.heap_drewN]; first | done | omega))))))); have _q0 : w.heap.size < w1.heap.size := (by omega); have _q1 : w.heap.size + 1 < w1.heap.size := (by omega); have _q2 : w.heap.size + 1 + 1 < w1.heap.size := (by omega))
          | (go_at_call 74; refine (HME.out _ (by repeat (first | (with_reducible assumption) | (with_reducible exact Below.refl _ _) | ((with_reducible refine Below.alloc ?_ ?_ _); rotate_left; (focus (first | omega | (simp only [World.size_alloc, World.size_setCell, World.size_drew, World.heap_drewN]; first | done | omega)))) | ((with_reducible refine Below.setCell ?_ ?_ _); rotate_left; (focus (first | omega | (simp only [World.size_alloc, World.size_setCell, World.size_drew, World.heap_drewN]; first | done | omega)))) | (with_reducible refine below_drewN ?_ _) | (with_reducible refine Below.drew ?_) | ((with_reducible refine Below.trans ?_ (Below.mono (by assumption) ?_)); rotate_left; (focus (first | omega | (simp only [World.size_alloc, World.size_setCell, World.size_drew, World.heap_drewN]; first | done | omega))))))).mono ?_; rintro e w2 ⟨rfl, hb2⟩; rw [M.out]; obtain ⟨_hr1, _hr2⟩ := below_reads hb2; have _hz := Below.size hb2; (try simp only [World.size_alloc, World.size_setCell, World.size_drew, World.heap_drewN] at _hz); obtain ⟨_hr3, _hr4⟩ := below_reads (show Below w.heap.size w w2 from (by repeat (first | (with_reducible assumption) | (with_reducible exact Below.refl _ _) | ((with_reducible refine Below.alloc ?_ ?_ _); rotate_left; (focus (first | omega | (simp only [World.size_alloc, World.size_setCell, World.size_drew, World.heap_drewN]; first | done | omega)))) | ((with_reducible refine Below.setCell ?_ ?_ _); rotate_left; (focus (first | omega | (simp only [World.size_alloc, World.size_setCell, World.size_drew, World.heap_drewN]; first | done | omega)))) | (with_reducible refine below_drewN ?_ _) | (with_reducible refine Below.drew ?_) | ((with_reducible refine Below.trans ?_ (Below.mono (by assumption) ?_)); rotate_left; (focus (first | omega | (simp only [World.size_alloc, World.size_setCell, World.size_drew, World.heap_drewN]; first | done | omega))))))); have _q0 : w.heap.size < w2.heap.size := (by omega); have _q1 : w.heap.size + 1 < w2.heap.size := (by omega); have _q2 : w.heap.size + 1 + 1 < w2.heap.size := (by omega))
          | (go_at_call 97; refine (HMA.out _ (by repeat (first | (with_reducible assumption) | (with_reducible exact Below.refl _ _) | ((with_reducible refine Below.alloc ?_ ?_ _); rotate_left; (focus (first | omega | (simp only [World.size_alloc, World.size_setCell, World.size_drew, World.heap_drewN]; first | done | omega)))) | ((with_reducible refine Below.setCell ?_ ?_ _); rotate_left; (focus (first | omega | (simp only [World.size_alloc, World.size_setCell, World.size_drew, World.heap_drewN]; first | done | omega)))) | (with_reducible refine below_drewN ?_ _) | (with_reducible refine Below.drew ?_) | ((with_reducible refine Below.trans ?_ (Below.mono (by assumption) ?_)); rotate_left; (focus (first | omega | (simp only [World.size_alloc, World.size_setCell, World.size_drew, World.heap_drewN]; first | done | omega))))))).mono ?_; rintro e w3 ⟨rfl, hb3⟩; rw [G3.out]; obtain ⟨_hr1, _hr2⟩ := below_reads hb3; have _hz := Below.size hb3; (try simp only [World.size_alloc, World.size_setCell, World.size_drew, World.heap_drewN] at _hz); obtain ⟨_hr3, _hr4⟩ := below_reads (show Below w.heap.size w w3 from (by repeat (first | (with_reducible assumption) | (with_reducible exact Below.refl _ _) | ((with_reducible refine Below.alloc ?_ ?_ _); rotate_left; (focus (first | omega | (simp only [World.size_alloc, World.size_setCell, World.size_drew, World.heap_drewN]; first | done | omega)))) | ((with_reducible refine Below.setCell ?_ ?_ _); rotate_left; (focus (first | omega | (simp only [World.size_alloc, World.size_setCell, World.size_drew, World.heap_drewN]; first | done | omega)))) | (with_reducible refine below_drewN ?_ _) | (with_reducible refine Below.drew ?_) | ((with_reducible refine Below.trans ?_ (Below.mono (by assumption) ?_)); rotate_left; (focus (first | omega | (simp only [World.size_alloc, World.size_setCell, World.size_drew, World.heap_drewN]; first | done | omega))))))); have _q0 : w.heap.size < w3.heap.size := (by omega); have _q1 : w.heap.size + 1 < w3.heap.size := (by omega); have _q2 : w.heap.size + 1 + 1 < w3.heap.size := (by omega)))
        go_ret
        exact ⟨ret_int R.out.symm, (by repeat (first | (with_reducible assumption) | (with_reducible exact Below.refl _ _) | ((with_reducible refine Below.alloc ?_ ?_ _); rotate_left; (focus (first | omega | (simp only [World.size_alloc, World.size_setCell, World.size_drew, World.heap_drewN]; first | done | omega)))) | ((with_reducible refine Below.setCell ?_ ?_ _); rotate_left; (focus (first | omega | (simp only [World.size_alloc, World.size_setCell, World.size_drew, World.heap_drewN]; first | done | omega)))) | (with_reducible refine below_drewN ?_ _) | (with_reducible refine Below.drew ?_) | ((with_reducible refine Below.trans ?_ (Below.mono (by assumption) ?_)); rotate_left; (focus (first | omega | (simp only [World.size_alloc, World.size_setCell, World.size_drew, World.heap_drewN]; first | done | omega))))))⟩
      · have R : Hid (agrErr x m ways lo hi = 0) := Lib.hid (by
          have : hadAny x (recRows x m ways) (meas lo hi) = true := hmade.trans g3
          simp [agrErr, g, g2, this])
        have G3 := Lib.hid g3
        clear g g2 g3 ok hmade
        go_enter Try.func67, Try.ntmps67
        go_wp2_with (first
          | (go_at_call 63; refine (HRE.out _ (by repeat (first | (with_reducible assumption) | (with_reducible exact Below.refl _ _) | ((with_reducible refine Below.alloc ?_ ?_ _); rotate_left; (focus (first | omega | (simp only [World.size_alloc, World.size_setCell, World.size_drew, World.heap_drewN]; first | done | omega)))) | ((with_reducible refine Below.setCell ?_ ?_ _); rotate_left; (focus (first | omega | (simp only [World.size_alloc, World.size_setCell, World.size_drew, World.heap_drewN]; first | done | omega)))) | (with_reducible refine below_drewN ?_ _) | (with_reducible refine Below.drew ?_) | ((with_reducible refine Below.trans ?_ (Below.mono (by assumption) ?_)); rotate_left; (focus (first | omega | (simp only [World.size_alloc, World.size_setCell, World.size_drew, World.heap_drewN]; first | done | omega))))))).mono ?_; rintro e w1 ⟨rfl, hb1⟩; rw [G.out]; obtain ⟨_hr1, _hr2⟩ := below_reads hb1; have _hz := Below.size hb1; (try simp only [World.size_alloc, World.size_setCell, World.size_drew, World.heap_drewN] at _hz); obtain ⟨_hr3, _hr4⟩ := below_reads (show Below w.heap.size w w1 from (by repeat (first | (with_reducible assumption) | (with_reducible exact Below.refl _ _) | ((with_reducible refine Below.alloc ?_ ?_ _); rotate_left; (focus (first | omega | (simp only [World.size_alloc, World.size_setCell, World.size_drew, World.heap_drewN]; first | done | omega)))) | ((with_reducible refine Below.setCell ?_ ?_ _); rotate_left; (focus (first | omega | (simp only [World.size_alloc, World.size_setCell, World.size_drew, World.heap_drewN]; first | done | omega)))) | (with_reducible refine below_drewN ?_ _) | (with_reducible refine Below.drew ?_) | ((with_reducible refine Below.trans ?_ (Below.mono (by assumption) ?_)); rotate_left; (focus (first | omega | (simp only [World.size_alloc, World.size_setCell, World.size_drew, World.heap_drewN]; first | done | omega))))))); have _q0 : w.heap.size < w1.heap.size := (by omega); have _q1 : w.heap.size + 1 < w1.heap.size := (by omega); have _q2 : w.heap.size + 1 + 1 < w1.heap.size := (by omega))
          | (go_at_call 74; refine (HME.out _ (by repeat (first | (with_reducible assumption) | (with_reducible exact Below.refl _ _) | ((with_reducible refine Below.alloc ?_ ?_ _); rotate_left; (focus (first | omega | (simp only [World.size_alloc, World.size_setCell, World.size_drew, World.heap_drewN]; first | done | omega)))) | ((with_reducible refine Below.setCell ?_ ?_ _); rotate_left; (focus (first | omega | (simp only [World.size_alloc, World.size_setCell, World.size_drew, World.heap_drewN]; first | done | omega)))) | (with_reducible refine below_drewN ?_ _) | (with_reducible refine Below.drew ?_) | ((with_reducible refine Below.trans ?_ (Below.mono (by assumption) ?_)); rotate_left; (focus (first | omega | (simp only [World.size_alloc, World.size_setCell, World.size_drew, World.heap_drewN]; first | done | omega))))))).mono ?_; rintro e w2 ⟨rfl, hb2⟩; rw [M.out]; obtain ⟨_hr1, _hr2⟩ := below_reads hb2; have _hz := Below.size hb2; (try simp only [World.size_alloc, World.size_setCell, World.size_drew, World.heap_drewN] at _hz); obtain ⟨_hr3, _hr4⟩ := below_reads (show Below w.heap.size w w2 from (by repeat (first | (with_reducible assumption) | (with_reducible exact Below.refl _ _) | ((with_reducible refine Below.alloc ?_ ?_ _); rotate_left; (focus (first | omega | (simp only [World.size_alloc, World.size_setCell, World.size_drew, World.heap_drewN]; first | done | omega)))) | ((with_reducible refine Below.setCell ?_ ?_ _); rotate_left; (focus (first | omega | (simp only [World.size_alloc, World.size_setCell, World.size_drew, World.heap_drewN]; first | done | omega)))) | (with_reducible refine below_drewN ?_ _) | (with_reducible refine Below.drew ?_) | ((with_reducible refine Below.trans ?_ (Below.mono (by assumption) ?_)); rotate_left; (focus (first | omega | (simp only [World.size_alloc, World.size_setCell, World.size_drew, World.heap_drewN]; first | done | omega))))))); have _q0 : w.heap.size < w2.heap.size := (by omega); have _q1 : w.heap.size + 1 < w2.heap.size := (by omega); have _q2 : w.heap.size + 1 + 1 < w2.heap.size := (by omega))
          | (go_at_call 97; refine (HMA.out _ (by repeat (first | (with_reducible assumption) | (with_reducible exact Below.refl _ _) | ((with_reducible refine Below.alloc ?_ ?_ _); rotate_left; (focus (first | omega | (simp only [World.size_alloc, World.size_setCell, World.size_drew, World.heap_drewN]; first | done | omega)))) | ((with_reducible refine Below.setCell ?_ ?_ _); rotate_left; (focus (first | omega | (simp only [World.size_alloc, World.size_setCell, World.size_drew, World.heap_drewN]; first | done | omega)))) | (with_reducible refine below_drewN ?_ _) | (with_reducible refine Below.drew ?_) | ((with_reducible refine Below.trans ?_ (Below.mono (by assumption) ?_)); rotate_left; (focus (first | omega | (simp only [World.size_alloc, World.size_setCell, World.size_drew, World.heap_drewN]; first | done | omega))))))).mono ?_; rintro e w3 ⟨rfl, hb3⟩; rw [G3.out]; obtain ⟨_hr1, _hr2⟩ := below_reads hb3; have _hz := Below.size hb3; (try simp only [World.size_alloc, World.size_setCell, World.size_drew, World.heap_drewN] at _hz); obtain ⟨_hr3, _hr4⟩ := below_reads (show Below w.heap.size w w3 from (by repeat (first | (with_reducible assumption) | (with_reducible exact Below.refl _ _) | ((with_reducible refine Below.alloc ?_ ?_ _); rotate_left; (focus (first | omega | (simp only [World.size_alloc, World.size_setCell, World.size_drew, World.heap_drewN]; first | done | omega)))) | ((with_reducible refine Below.setCell ?_ ?_ _); rotate_left; (focus (first | omega | (simp only [World.size_alloc, World.size_setCell, World.size_drew, World.heap_drewN]; first | done | omega)))) | (with_reducible refine below_drewN ?_ _) | (with_reducible refine Below.drew ?_) | ((with_reducible refine Below.trans ?_ (Below.mono (by assumption) ?_)); rotate_left; (focus (first | omega | (simp only [World.size_alloc, World.size_setCell, World.size_drew, World.heap_drewN]; first | done | omega))))))); have _q0 : w.heap.size < w3.heap.size := (by omega); have _q1 : w.heap.size + 1 < w3.heap.size := (by omega); have _q2 : w.heap.size + 1 + 1 < w3.heap.size := (by omega)))
        go_ret
        exact ⟨ret_int R.out.symm, (by repeat (first | (with_reducible assumption) | (with_reducible exact Below.refl _ _) | ((with_reducible refine Below.alloc ?_ ?_ _); rotate_left; (focus (first | omega | (simp only [World.size_alloc, World.size_setCell, World.size_drew, World.heap_drewN]; first | done | omega)))) | ((with_reducible refine Below.setCell ?_ ?_ _); rotate_left; (focus (first | omega | (simp only [World.size_alloc, World.size_setCell, World.size_drew, World.heap_drewN]; first | done | omega)))) | (with_reducible refine below_drewN ?_ _) | (with_reducible refine Below.drew ?_) | ((with_reducible refine Below.trans ?_ (Below.mono (by assumption) ?_)); rotate_left; (focus (first | omega | (simp only [World.size_alloc, World.size_setCell, World.size_drew, World.heap_drewN]; first | done | omega))))))⟩
  · have R : Hid (agrErr x bar ways lo hi = recErr x bar ways) := Lib.hid (by simp [agrErr, g])
    have g' : (recErr x bar ways != 0) = true := by simp [g]
    clear g
    go_enter Try.func67, Try.ntmps67
    go_wp2_with fail
    refine (HRE.out _ (by repeat (first | (with_reducible assumption) | (with_reducible exact Below.refl _ _) | ((with_reducible refine Below.alloc ?_ ?_ _); rotate_left; (focus (first | omega | (simp only [World.size_alloc, World.size_setCell, World.size_drew, World.heap_drewN]; first | done | omega)))) | ((with_reducible refine Below.setCell ?_ ?_ _); rotate_left; (focus (first | omega | (simp only [World.size_alloc, World.size_setCell, World.size_drew, World.heap_drewN]; first | done | omega)))) | (with_reducible refine below_drewN ?_ _) | (with_reducible refine Below.drew ?_) | ((with_reducible refine Below.trans ?_ (Below.mono (by assumption) ?_)); rotate_left; (focus (first | omega | (simp only [World.size_alloc, World.size_setCell, World.size_drew, World.heap_drewN]; first | done | omega))))))).mono ?_
    rintro e w1 ⟨rfl, hb1⟩
    obtain ⟨_hr1, _hr2⟩ := below_reads hb1; have _hz := Below.size hb1; (try simp only [World.size_alloc, World.size_setCell, World.size_drew, World.heap_drewN] at _hz); obtain ⟨_hr3, _hr4⟩ := below_reads (show Below w.heap.size w w1 from (by repeat (first | (with_reducible assumption) | (with_reducible exact Below.refl _ _) | ((with_reducible refine Below.alloc ?_ ?_ _); rotate_left; (focus (first | omega | (simp only [World.size_alloc, World.size_setCell, World.size_drew, World.heap_drewN]; first | done | omega)))) | ((with_reducible refine Below.setCell ?_ ?_ _); rotate_left; (focus (first | omega | (simp only [World.size_alloc, World.size_setCell, World.size_drew, World.heap_drewN]; first | done | omega)))) | (with_reducible refine below_drewN ?_ _) | (with_reducible refine Below.drew ?_) | ((with_reducible refine Below.trans ?_ (Below.mono (by assumption) ?_)); rotate_left; (focus (first | omega | (simp only [World.size_alloc, World.size_setCell, World.size_drew, World.heap_drewN]; first | done | omega))))))); have _q0 : w.heap.size < w1.heap.size := (by omega); have _q1 : w.heap.size + 1 < w1.heap.size := (by omega); have _q2 : w.heap.size + 1 + 1 < w1.heap.size := (by omega)
    go_wp2_with fail
    refine (HRE.out _ (by repeat (first | (with_reducible assumption) | (with_reducible exact Below.refl _ _) | ((with_reducible refine Below.alloc ?_ ?_ _); rotate_left; (focus (first | omega | (simp only [World.size_alloc, World.size_setCell, World.size_drew, World.heap_drewN]; first | done | omega)))) | ((with_reducible refine Below.setCell ?_ ?_ _); rotate_left; (focus (first | omega | (simp only [World.size_alloc, World.size_setCell, World.size_drew, World.heap_drewN]; first | done | omega)))) | (with_reducible refine below_drewN ?_ _) | (with_reducible refine Below.drew ?_) | ((with_reducible refine Below.trans ?_ (Below.mono (by assumption) ?_)); rotate_left; (focus (first | omega | (simp only [World.size_alloc, World.size_setCell, World.size_drew, World.heap_drewN]; first | done | omega))))))).mono ?_
    rintro e w2 ⟨rfl, hb2⟩
    have _q0 : w.heap.size < w2.heap.size := by have := hb2.size; omega
    have _q1 : w.heap.size + 1 < w2.heap.size := by have := hb2.size; omega
    have _q2 : w.heap.size + 1 + 1 < w2.heap.size := by have := hb2.size; omega
    go_wp2_with fail
    go_ret
    exact ⟨ret_int R.out.symm, (by repeat (first | (with_reducible assumption) | (with_reducible exact Below.refl _ _) | ((with_reducible refine Below.alloc ?_ ?_ _); rotate_left; (focus (first | omega | (simp only [World.size_alloc, World.size_setCell, World.size_drew, World.heap_drewN]; first | done | omega)))) | ((with_reducible refine Below.setCell ?_ ?_ _); rotate_left; (focus (first | omega | (simp only [World.size_alloc, World.size_setCell, World.size_drew, World.heap_drewN]; first | done | omega)))) | (with_reducible refine below_drewN ?_ _) | (with_reducible refine Below.drew ?_) | ((with_reducible refine Below.trans ?_ (Below.mono (by assumption) ?_)); rotate_left; (focus (first | omega | (simp only [World.size_alloc, World.size_setCell, World.size_drew, World.heap_drewN]; first | done | omega))))))⟩
end Go.Proofs.Ytigpefjeelgfdaa

/-
  Walks of layer 1's reference: from which to which hardness histories have been.
-/
namespace Go.Proofs.Ytigpefjeelgfdaa
open Go.RowKit

/-- Ranges in a block of the call's own, range j being f j. -/
structure OwnR (w : World) (base g c : Nat) (f : Nat → Rg) (n : Nat) : Prop where
  base : base ≤ g
  lt : g < w.heap.size
  cap : n ≤ c
  max : c ≤ 9223372036854775807
  lo : ∀ j, j < n → w.cell? ⟨g, j * 2, none⟩ = some (.int .i64 (f j).1)
  hi : ∀ j, j < n → w.cell? ⟨g, j * 2 + 1, none⟩ = some (.int .i64 (f j).2)
  fz : ∀ k, w.frozen? ⟨g, k, none⟩ = false
theorem OwnR.later {w w' : World} {base g c n : Nat} {f : Nat → Rg} (h : OwnR w base g c f n) {b : Nat} (hb : Below b w w') (hg : g < b) : OwnR w' base g c f n :=
  ⟨h.base, Nat.lt_of_lt_of_le h.lt hb.size, h.cap, h.max, fun j hj => (hb.cell (p := ⟨g, j * 2, none⟩) hg).trans (h.lo j hj), fun j hj => (hb.cell (p := ⟨g, j * 2 + 1, none⟩) hg).trans (h.hi j hj), fun k => (hb.frozen (p := ⟨g, k, none⟩) hg).trans (h.fz k)⟩
theorem OwnR.congr {w : World} {base g c n : Nat} {f f' : Nat → Rg} (h : OwnR w base g c f n) (e : ∀ j, j < n → f j = f' j) : OwnR w base g c f' n :=
  ⟨h.base, h.lt, h.cap, h.max, fun j hj => by rw [← e j hj]; exact h.lo j hj, fun j hj => by rw [← e j hj]; exact h.hi j hj, h.fz⟩
theorem OwnR.far {w : World} {base g c n : Nat} {f : Nat → Rg} (h : OwnR w base g c f n) {p : Addr} (hp : p.block ≠ g) (u : Value) : OwnR (w.setCell p u) base g c f n :=
  ⟨h.base, by simpa using h.lt, h.cap, h.max, fun j hj => (World.cell?_setCell_far w p _ u hp).trans (h.lo j hj), fun j hj => (World.cell?_setCell_far w p _ u hp).trans (h.hi j hj), fun k => by rw [World.frozen?_setCell]; exact h.fz k⟩
theorem OwnR.set {w : World} {base g c n : Nat} {f : Nat → Rg} (h : OwnR w base g c f n) {i : Nat} (hi : i < n) (a b : Int) :
    OwnR ((w.setCell ⟨g, i * 2, none⟩ (.int .i64 a)).setCell ⟨g, i * 2 + 1, none⟩ (.int .i64 b)) base g c (fun j => if j = i then (a, b) else f j) n := by
  refine ⟨h.base, by simpa using h.lt, h.cap, h.max, fun j hj => ?_, fun j hj => ?_, fun k => by rw [World.frozen?_setCell, World.frozen?_setCell]; exact h.fz k⟩
  · rw [World.cell?_setCell_other _ _ _ _ (by intro e; simp at e; try omega)]
    by_cases e : j = i
    · subst e
      simp only [if_true]
      exact World.cell?_setCell_same _ _ _ (h.lo j hj)
    · simp only [if_neg e]
      rw [World.cell?_setCell_other _ _ _ _ (by intro e'; simp at e'; try omega)]
      exact h.lo j hj
  · by_cases e : j = i
    · subst e
      simp only [if_true]
      refine World.cell?_setCell_same _ _ _ (u := .int .i64 (f j).2) ?_
      rw [World.cell?_setCell_other _ _ _ _ (by intro e'; simp at e')]
      exact h.hi j hj
    · simp only [if_neg e]
      rw [World.cell?_setCell_other _ _ _ _ (by intro e'; simp at e'; try omega), World.cell?_setCell_other _ _ _ _ (by intro e'; simp at e'; try omega)]
      exact h.hi j hj
theorem OwnR.rgs {w : World} {base g c n : Nat} {f : Nat → Rg} (h : OwnR w base g c f n) : Rgs w w.heap.size (.slice (some ⟨g, 0, none⟩) n c) ((List.range n).map f) :=
  ⟨some ⟨g, 0, none⟩, c, by simp, by simpa using h.cap, h.max, fun _ => ⟨g, 0, rfl, h.lt, fun i x hi => by
    have hin : i < n := by
      rcases Nat.lt_or_ge i n with h1 | h1
      · exact h1
      · rw [List.getElem?_eq_none (by simpa using h1)] at hi; cases hi
    rw [List.getElem?_map, List.getElem?_range hin] at hi
    simp only [Option.map_some, Option.some.injEq] at hi
    subst hi
    refine ⟨?_, ?_⟩
    · rw [Nat.zero_add]; exact h.lo i hin
    · rw [Nat.zero_add]; exact h.hi i hin⟩⟩
theorem own_ranges {w : World} {base : Nat} {v : Value} {x : Works} {m : Nat} {ways : List Int} {n : Nat} (h : w.ownsRow base 33 2 v (n + 1) (rngTo x m ways (n + 1))) : ∃ g c, v = .slice (some ⟨g, 0, none⟩) (n + 1) c ∧ OwnR w base g c (rngN x m ways) (n + 1) := by
  rcases h.2 with ⟨_, h2⟩ | ⟨g, cap, cur, hv, hb, hg, hnc, hcm, hcs, htake⟩
  · cases h2
  · refine ⟨g, cap, hv, hb, (Array.getElem?_eq_some_iff.1 hg).1, hnc, by unfold maxLen at hcm; omega, fun j hj => ?_, fun j hj => ?_, fun k => by simp [World.frozen?, hg]⟩
    · rw [cell_of_row w g (j * 2) cur 33 (0, 0) hg]
      have h0 := flatMap_get rgV 2 (fun _ => rfl) ((List.range (n + 1)).map (rngN x m ways)) j 0 (rngN x m ways j) (by rw [List.getElem?_map, List.getElem?_range hj]; rfl) (by omega)
      have h1 : (rngTo x m ways (n + 1))[j * 2 + 0]? = _ := h0
      rw [← htake, List.getElem?_take] at h1
      split at h1
      · simpa [rgV] using h1
      · cases h1
    · rw [cell_of_row w g (j * 2 + 1) cur 33 (0, 0) hg]
      have h0 := flatMap_get rgV 2 (fun _ => rfl) ((List.range (n + 1)).map (rngN x m ways)) j 1 (rngN x m ways j) (by rw [List.getElem?_map, List.getElem?_range hj]; rfl) (by omega)
      have h1 : (rngTo x m ways (n + 1))[j * 2 + 1]? = _ := h0
      rw [← htake, List.getElem?_take] at h1
      split at h1
      · simpa [rgV] using h1
      · cases h1

/-- What a scan has found, ahead of k: nothing; or the least and the greatest place. -/
def Scan (p : Nat → Bool) (a k : Nat) (lo hi : Int) : Prop :=
  (lo = -1 ∧ hi = -1 ∧ ∀ j, a ≤ j → j < k → p j = false) ∨
  (∃ u v : Nat, lo = u ∧ hi = v ∧ a ≤ u ∧ u ≤ v ∧ v < k ∧ p u = true ∧ p v = true ∧ (∀ j, a ≤ j → j < u → p j = false) ∧ ∀ j, v < j → j < k → p j = false)
theorem Scan.start (p : Nat → Bool) (a : Nat) : Scan p a a (-1) (-1) := .inl ⟨rfl, rfl, fun j h1 h2 => absurd h1 (by omega)⟩
theorem Scan.no {p : Nat → Bool} {a k : Nat} {lo hi : Int} (h : Scan p a k lo hi) (hp : p k = false) : Scan p a (k + 1) lo hi := by
  have hk : ∀ j, j < k + 1 → ¬ j < k → p j = false := fun j h1 h2 => by
    obtain rfl : j = k := by omega
    exact hp
  rcases h with ⟨h1, h2, h3⟩ | ⟨u, v, h1, h2, h3, h4, h5, h6, h7, h8, h9⟩
  · refine .inl ⟨h1, h2, fun j g1 g2 => ?_⟩
    by_cases e : j < k
    · exact h3 j g1 e
    · exact hk j g2 e
  · refine .inr ⟨u, v, h1, h2, h3, h4, by omega, h6, h7, h8, fun j g1 g2 => ?_⟩
    by_cases e : j < k
    · exact h9 j g1 e
    · exact hk j g2 e
theorem Scan.first {p : Nat → Bool} {a k : Nat} {lo hi : Int} (h : Scan p a k lo hi) (hl : lo < 0) (ha : a ≤ k) (hp : p k = true) : Scan p a (k + 1) k k := by
  rcases h with ⟨h1, h2, h3⟩ | ⟨u, v, h1, h2, h3, h4, h5, h6, h7, h8, h9⟩
  · exact .inr ⟨k, k, rfl, rfl, ha, Nat.le_refl _, by omega, hp, hp, h3, fun j g1 g2 => absurd g1 (by omega)⟩
  · omega
theorem Scan.more {p : Nat → Bool} {a k : Nat} {lo hi : Int} (h : Scan p a k lo hi) (hl : ¬ lo < 0) (hp : p k = true) : Scan p a (k + 1) lo k := by
  rcases h with ⟨h1, h2, h3⟩ | ⟨u, v, h1, h2, h3, h4, h5, h6, h7, h8, h9⟩
  · omega
  · exact .inr ⟨u, k, h1, rfl, h3, by omega, by omega, h6, hp, h8, fun j g1 g2 => absurd g1 (by omega)⟩

section
variable {x : Works} {m : Nat} {ways : List Int} {mlo mhi : Int}
/-- What is looked for at a step. -/
def hitB (x : Works) (m : Nat) (ways : List Int) (mlo mhi : Int) (s j : Nat) : Bool :=
  decide ((aft (wayOf x ways s) j).1 ≤ (hadE x m ways mlo mhi (s + 1)).2) && decide ((hadE x m ways mlo mhi (s + 1)).1 ≤ (aft (wayOf x ways s) j).2)
theorem Scan.done (ok : RecOk x m ways) (hany : hadAny x (rowOf x ways (barP x m)) (meas mlo mhi) = true) {s : Nat} (hs : s < x.steps.length) {k : Nat} {lo hi : Int}
    (h : Scan (hitB x m ways mlo mhi s) (rngN x m ways s).1.toNat k lo hi) (hk : (k : Int) = (rngN x m ways s).2 + 1) : hadE x m ways mlo mhi s = (lo, hi) := by
  have hv := rngN_val ok s (Nat.le_of_lt hs)
  have hb := hadE_val ok hany (Nat.le_of_lt hs)
  have key := hadE_step ok hany hs
  have hit : ∀ j : Nat, hitB x m ways mlo mhi s j = true ↔ (aft (wayOf x ways s) j).1 ≤ (hadE x m ways mlo mhi (s + 1)).2 ∧ (hadE x m ways mlo mhi (s + 1)).1 ≤ (aft (wayOf x ways s) j).2 := fun j => by simp [hitB]
  generalize hE : hadE x m ways mlo mhi s = E at *
  obtain ⟨a, b⟩ := E
  simp only at key hb ⊢
  have ka := (key a.toNat).1 (by omega)
  have kb := (key b.toNat).1 (by omega)
  have ha := (hit a.toNat).2 ka.2
  have hbb := (hit b.toNat).2 kb.2
  rcases h with ⟨h1, h2, h3⟩ | ⟨u, v, h1, h2, h3, h4, h5, h6, h7, h8, h9⟩
  · rw [h3 a.toNat (by omega) (by omega)] at ha
    cases ha
  · have ku := (key u).2 ⟨by omega, (hit u).1 h6⟩
    have kv := (key v).2 ⟨by omega, (hit v).1 h7⟩
    have g1 : ¬ a.toNat < u := fun g => by rw [h8 a.toNat (by omega) g] at ha; cases ha
    have g2 : ¬ v < b.toNat := fun g => by rw [h9 b.toNat g (by omega)] at hbb; cases hbb
    rw [Prod.mk.injEq]
    omega
/-- The ranges, those from t on already narrowed. -/
def partN (x : Works) (m : Nat) (ways : List Int) (mlo mhi : Int) (t j : Nat) : Rg := if t ≤ j then hadE x m ways mlo mhi j else rngN x m ways j
end
end Go.Proofs.Ytigpefjeelgfdaa

/-
  Walks of layer 1's reference: had.
-/
namespace Go.Proofs.Ytigpefjeelgfdaa
open Go.RowKit

set_option maxRecDepth 100000 in
set_option maxHeartbeats 4000000 in
theorem refhad_ok (Ab As Ar : Option Addr) (cb cs cr : Nat) (x : Works) (m : Nat) (ways : List Int) (mlo mhi : Int) (B : Nat) (w : World) (h : In w B Ab As Ar cb cs cr x ways) (ok : RecOk x (m : Int) ways)
    (hm : isHardB mlo mhi = true) (hany : hadAny x (rowOf x ways (barP x m)) (meas mlo mhi) = true) :
    Calls Try.prog 68 #[.agg #[.slice Ab x.bars.length cb, .slice As x.steps.length cs], .agg #[.int .i64 m, .slice Ar ways.length cr], .agg #[.int .i64 mlo, .int .i64 mhi]] w
      fun e w' => ∃ v, e = .returned (.tuple #[v, .bool true]) ∧ (Fact.rgs ((List.range (x.steps.length + 1)).map (hadE x m ways mlo mhi))).holds v w' ∧ Below w.heap.size w w' := by
  have hwl : Hid (ways.length = x.steps.length) := ok.len
  have hs6 := steps_few ok.works
  have hB := h.le
  have hrr : ∀ W : World, Below w.heap.size w W → Calls Try.prog 64 #[.agg #[.slice Ab x.bars.length cb, .slice As x.steps.length cs], .agg #[.int .i64 m, .slice Ar ways.length cr]] W fun e w' => ∃ v, e = .returned v ∧ Hid (w'.ownsRow W.heap.size 33 2 v (x.steps.length + 1) (rngTo x m ways (x.steps.length + 1))) ∧ Below W.heap.size W w' :=
    fun W hW => refranges_own Ab As Ar cb cs cr x m ways B W (h.on hW hB) ok
  have HRR := Lib.hid hrr
  clear hrr
  obtain ⟨a, b, hab⟩ : ∃ a b, rngN x m ways x.steps.length = (a, b) := ⟨_, _, rfl⟩
  have hv := rngN_val ok x.steps.length (Nat.le_refl _)
  have hl := hadE_last ok hany
  have hlv := hadE_val ok hany (Nat.le_refl x.steps.length)
  rw [hl] at hlv
  rw [hab] at hv hl hlv
  simp only at hv hl hlv
  have HL := Lib.hid hl
  have HAB := Lib.hid hab
  have OK := Lib.hid ok
  have HM := Lib.hid hm
  have HANY := Lib.hid hany
  have q1 : max a mlo ≤ min b mhi := by omega
  have s0 : (0 : Int) ≤ (x.steps.length : Int) := by omega
  clear hab ok hm hany hl hlv
  go_enter Try.func68, Try.ntmps68
  go_wp2_with (go_at_call 64; refine Calls.mono (HRR.out _ (by repeat (first | (with_reducible assumption) | (with_reducible exact Below.refl _ _) | ((with_reducible refine Below.alloc ?_ ?_ _); rotate_left; (focus (first | omega | (simp only [World.size_alloc, World.size_setCell, World.size_drew, World.heap_drewN]; first | done | omega)))) | ((with_reducible refine Below.setCell ?_ ?_ _); rotate_left; (focus (first | omega | (simp only [World.size_alloc, World.size_setCell, World.size_drew, World.heap_drewN]; first | done | omega)))) | (with_reducible refine below_drewN ?_ _) | (with_reducible refine Below.drew ?_) | ((with_reducible refine Below.trans ?_ (Below.mono (by assumption) ?_)); rotate_left; (focus (first | omega | (simp only [World.size_alloc, World.size_setCell, World.size_drew, World.heap_drewN]; first | done | omega))))))) ?_; rintro e w2 ⟨v2, rfl, ho, hb2⟩; obtain ⟨g, c, rfl, hO⟩ := own_ranges ho.out; clear ho; have k1 := hO.lo x.steps.length (by omega); have k2 := hO.hi x.steps.length (by omega); have k3 := hO.fz (x.steps.length * 2); have k4 := hO.fz (x.steps.length * 2 + 1); rw [HAB.out] at k1 k2; have k5 := hO.lt; have k6 := hO.base; simp only [World.size_alloc] at k6; obtain ⟨_hr1, _hr2⟩ := below_reads hb2; have _hz := Below.size hb2; (try simp only [World.size_alloc, World.size_setCell, World.size_drew, World.heap_drewN] at _hz); obtain ⟨_hr3, _hr4⟩ := below_reads (show Below w.heap.size w w2 from (by repeat (first | (with_reducible assumption) | (with_reducible exact Below.refl _ _) | ((with_reducible refine Below.alloc ?_ ?_ _); rotate_left; (focus (first | omega | (simp only [World.size_alloc, World.size_setCell, World.size_drew, World.heap_drewN]; first | done | omega)))) | ((with_reducible refine Below.setCell ?_ ?_ _); rotate_left; (focus (first | omega | (simp only [World.size_alloc, World.size_setCell, World.size_drew, World.heap_drewN]; first | done | omega)))) | (with_reducible refine below_drewN ?_ _) | (with_reducible refine Below.drew ?_) | ((with_reducible refine Below.trans ?_ (Below.mono (by assumption) ?_)); rotate_left; (focus (first | omega | (simp only [World.size_alloc, World.size_setCell, World.size_drew, World.heap_drewN]; first | done | omega))))))); have _q0 : w.heap.size < w2.heap.size := (by omega); have _q1 : w.heap.size + 1 < w2.heap.size := (by omega); have _q2 : w.heap.size + 1 + 1 < w2.heap.size := (by omega))
  refine wp_region_later_tail 20 (by kernel_rfl) (by kernel_rfl) ?_; simp only [List.take_succ_cons, List.take_zero, List.drop_succ_cons, List.drop_zero]; have _hl := later_reads (w2); (repeat (go_big_quiet_step (fail))); refine wpQuiet_nil ?_; intro w3 hw'; have hb_w3 := later_below hw'; clear hw' _hl
  have hb1 : Below w.heap.size w w3 := (by repeat (first | (with_reducible assumption) | (with_reducible exact Below.refl _ _) | ((with_reducible refine Below.alloc ?_ ?_ _); rotate_left; (focus (first | omega | (simp only [World.size_alloc, World.size_setCell, World.size_drew, World.heap_drewN]; first | done | omega)))) | ((with_reducible refine Below.setCell ?_ ?_ _); rotate_left; (focus (first | omega | (simp only [World.size_alloc, World.size_setCell, World.size_drew, World.heap_drewN]; first | done | omega)))) | (with_reducible refine below_drewN ?_ _) | (with_reducible refine Below.drew ?_) | ((with_reducible refine Below.trans ?_ (Below.mono (by assumption) ?_)); rotate_left; (focus (first | omega | (simp only [World.size_alloc, World.size_setCell, World.size_drew, World.heap_drewN]; first | done | omega))))))
  have e1 : hadE x m ways mlo mhi x.steps.length = ((if a < mlo then mlo else a), (if mhi < b then mhi else b)) := by
    rw [HL.out, Prod.mk.injEq]
    constructor
    · split <;> omega
    · split <;> omega
  have q2 : (if a < mlo then mlo else a) ≤ (if mhi < b then mhi else b) := by
    split <;> split <;> omega
  generalize (if a < mlo then mlo else a) = L0 at e1 q2 ⊢
  generalize (if mhi < b then mhi else b) = H0 at e1 q2 ⊢
  have E1 := Lib.hid e1
  clear e1 q1 HL hv
  have hO3 := hO.later hb_w3 hO.lt
  have bw2 : Box w2 w.heap.size 25 #[.slice Ab x.bars.length cb, .slice As x.steps.length cs] := by (refine Box.of_f ?_; repeat (first | ((with_reducible refine BoxF.done (by with_reducible assumption) ?_); rfl) | ((with_reducible refine BoxF.new ?_ ?_); (focus (first | omega | (simp only [World.size_alloc, World.size_setCell, World.size_drew, World.heap_drewN]; first | done | omega))); rfl) | ((with_reducible refine BoxF.alloc ?_ ?_); (focus (first | omega | (simp only [World.size_alloc, World.size_setCell, World.size_drew, World.heap_drewN]; first | done | omega)))) | (with_reducible refine BoxF.set ?_) | ((with_reducible refine BoxF.far ?_ ?_); ((try simp only []); omega)) | (with_reducible refine BoxF.drewN ?_) | (with_reducible refine BoxF.drew ?_) | ((with_reducible refine BoxF.below (by with_reducible assumption) ?_ ?_); (focus (first | omega | (simp only [World.size_alloc, World.size_setCell, World.size_drew, World.heap_drewN]; first | done | omega))))))
  have br2 : Box w2 (w.heap.size + 1) 42 #[.int .i64 m, .slice Ar ways.length cr] := by (refine Box.of_f ?_; repeat (first | ((with_reducible refine BoxF.done (by with_reducible assumption) ?_); rfl) | ((with_reducible refine BoxF.new ?_ ?_); (focus (first | omega | (simp only [World.size_alloc, World.size_setCell, World.size_drew, World.heap_drewN]; first | done | omega))); rfl) | ((with_reducible refine BoxF.alloc ?_ ?_); (focus (first | omega | (simp only [World.size_alloc, World.size_setCell, World.size_drew, World.heap_drewN]; first | done | omega)))) | (with_reducible refine BoxF.set ?_) | ((with_reducible refine BoxF.far ?_ ?_); ((try simp only []); omega)) | (with_reducible refine BoxF.drewN ?_) | (with_reducible refine BoxF.drew ?_) | ((with_reducible refine BoxF.below (by with_reducible assumption) ?_ ?_); (focus (first | omega | (simp only [World.size_alloc, World.size_setCell, World.size_drew, World.heap_drewN]; first | done | omega))))))
  have bm2 : Box w2 (w.heap.size + 1 + 1) 33 #[.int .i64 mlo, .int .i64 mhi] := by (refine Box.of_f ?_; repeat (first | ((with_reducible refine BoxF.done (by with_reducible assumption) ?_); rfl) | ((with_reducible refine BoxF.new ?_ ?_); (focus (first | omega | (simp only [World.size_alloc, World.size_setCell, World.size_drew, World.heap_drewN]; first | done | omega))); rfl) | ((with_reducible refine BoxF.alloc ?_ ?_); (focus (first | omega | (simp only [World.size_alloc, World.size_setCell, World.size_drew, World.heap_drewN]; first | done | omega)))) | (with_reducible refine BoxF.set ?_) | ((with_reducible refine BoxF.far ?_ ?_); ((try simp only []); omega)) | (with_reducible refine BoxF.drewN ?_) | (with_reducible refine BoxF.drew ?_) | ((with_reducible refine BoxF.below (by with_reducible assumption) ?_ ?_); (focus (first | omega | (simp only [World.size_alloc, World.size_setCell, World.size_drew, World.heap_drewN]; first | done | omega))))))
  have bw3 := Box.below bw2 hb_w3 bw2.lt
  have br3 := Box.below br2 hb_w3 br2.lt
  have bm3 := Box.below bm2 hb_w3 bm2.lt
  clear k1 k2 k3 k4 k5 hO hb2 hb_w3 bw2 br2 bm2 _hr1 _hr2 _hr3 _hr4 _q0 _q1 _q2 _hz
  have k1 := hO3.lo x.steps.length (by omega)
  have k2 := hO3.hi x.steps.length (by omega)
  have k3 := hO3.fz (x.steps.length * 2)
  have k4 := hO3.fz (x.steps.length * 2 + 1)
  have k5 := hO3.lt
  rw [HAB.out] at k1 k2
  simp only at k1 k2
  go_wp2_with fail
  generalize hW4 : (w3.setCell ⟨g, x.steps.length * 2, none⟩ (.int .i64 L0)).setCell ⟨g, x.steps.length * 2 + 1, none⟩ (.int .i64 H0) = W4
  have hO4 : OwnR W4 (w.heap.size + 3) g c (partN x m ways mlo mhi x.steps.length) (x.steps.length + 1) := by
    rw [← hW4]
    have h1 := hO3.set (i := x.steps.length) (by omega) L0 H0
    refine ⟨by omega, h1.lt, h1.cap, h1.max, ?_, ?_, h1.fz⟩
    · intro j hj
      rw [h1.lo j hj]
      by_cases e : j = x.steps.length
      · subst e; simp only [if_true, partN, if_pos (Nat.le_refl _), E1.out]
      · simp only [if_neg e, partN]; rw [if_neg (by omega)]
    · intro j hj
      rw [h1.hi j hj]
      by_cases e : j = x.steps.length
      · subst e; simp only [if_true, partN, if_pos (Nat.le_refl _), E1.out]
      · simp only [if_neg e, partN]; rw [if_neg (by omega)]
  have hb4 : Below w.heap.size w W4 := by rw [← hW4]; exact (by repeat (first | (with_reducible assumption) | (with_reducible exact Below.refl _ _) | ((with_reducible refine Below.alloc ?_ ?_ _); rotate_left; (focus (first | omega | (simp only [World.size_alloc, World.size_setCell, World.size_drew, World.heap_drewN]; first | done | omega)))) | ((with_reducible refine Below.setCell ?_ ?_ _); rotate_left; (focus (first | omega | (simp only [World.size_alloc, World.size_setCell, World.size_drew, World.heap_drewN]; first | done | omega)))) | (with_reducible refine below_drewN ?_ _) | (with_reducible refine Below.drew ?_) | ((with_reducible refine Below.trans ?_ (Below.mono (by assumption) ?_)); rotate_left; (focus (first | omega | (simp only [World.size_alloc, World.size_setCell, World.size_drew, World.heap_drewN]; first | done | omega))))))
  have bw4 : Box W4 w.heap.size 25 #[.slice Ab x.bars.length cb, .slice As x.steps.length cs] := by rw [← hW4]; (refine Box.of_f ?_; repeat (first | ((with_reducible refine BoxF.done (by with_reducible assumption) ?_); rfl) | ((with_reducible refine BoxF.new ?_ ?_); (focus (first | omega | (simp only [World.size_alloc, World.size_setCell, World.size_drew, World.heap_drewN]; first | done | omega))); rfl) | ((with_reducible refine BoxF.alloc ?_ ?_); (focus (first | omega | (simp only [World.size_alloc, World.size_setCell, World.size_drew, World.heap_drewN]; first | done | omega)))) | (with_reducible refine BoxF.set ?_) | ((with_reducible refine BoxF.far ?_ ?_); ((try simp only []); omega)) | (with_reducible refine BoxF.drewN ?_) | (with_reducible refine BoxF.drew ?_) | ((with_reducible refine BoxF.below (by with_reducible assumption) ?_ ?_); (focus (first | omega | (simp only [World.size_alloc, World.size_setCell, World.size_drew, World.heap_drewN]; first | done | omega))))))
  have br4 : Box W4 (w.heap.size + 1) 42 #[.int .i64 m, .slice Ar ways.length cr] := by rw [← hW4]; (refine Box.of_f ?_; repeat (first | ((with_reducible refine BoxF.done (by with_reducible assumption) ?_); rfl) | ((with_reducible refine BoxF.new ?_ ?_); (focus (first | omega | (simp only [World.size_alloc, World.size_setCell, World.size_drew, World.heap_drewN]; first | done | omega))); rfl) | ((with_reducible refine BoxF.alloc ?_ ?_); (focus (first | omega | (simp only [World.size_alloc, World.size_setCell, World.size_drew, World.heap_drewN]; first | done | omega)))) | (with_reducible refine BoxF.set ?_) | ((with_reducible refine BoxF.far ?_ ?_); ((try simp only []); omega)) | (with_reducible refine BoxF.drewN ?_) | (with_reducible refine BoxF.drew ?_) | ((with_reducible refine BoxF.below (by with_reducible assumption) ?_ ?_); (focus (first | omega | (simp only [World.size_alloc, World.size_setCell, World.size_drew, World.heap_drewN]; first | done | omega))))))
  clear hW4 hO3 bw3 br3 bm3 k1 k2 k3 k4 k5 hb1
  have k1 := hO4.lo x.steps.length (by omega)
  have k2 := hO4.hi x.steps.length (by omega)
  have k5 := hO4.lt
  simp only [partN, if_pos (Nat.le_refl _), E1.out] at k1 k2
  refine wp_region_later (by kernel_rfl) (by kernel_rfl) ?_; have _hl := later_reads (W4); (repeat (go_big_quiet_step (fail))); refine wpQuiet_nil ?_; intro w5 hw'; have hb_w5 := later_below hw'; clear hw' _hl
  have hO5 := hO4.later hb_w5 hO4.lt
  have hb5 : Below w.heap.size w w5 := hb4.trans (hb_w5.mono hb4.size)
  have bw5 := Box.below bw4 hb_w5 bw4.lt
  have br5 := Box.below br4 hb_w5 br4.lt
  clear k1 k2 k5 hO4 bw4 br4 hb4 hb_w5
  go_wp2_with fail
  go_loopw [10] (fun i wr => ∃ (t : Nat) (z : Int), t ≤ x.steps.length ∧ i = .int .i64 z ∧ z = (t : Int) - 1 ∧ Below w.heap.size w wr ∧ OwnR wr (w.heap.size + 3) g c (partN x m ways mlo mhi t) (x.steps.length + 1) ∧
      Box wr w.heap.size 25 #[.slice Ab x.bars.length cb, .slice As x.steps.length cs] ∧ Box wr (w.heap.size + 1) 42 #[.int .i64 m, .slice Ar ways.length cr])
    (fun i _ => (intOf i + 1).toNat)
  case atStart => exact ⟨x.steps.length, _, Nat.le_refl _, rfl, rfl, hb5, hO5, bw5, br5⟩
  case round =>
    clear hO5 hb5 bw5 br5
    obtain ⟨t, z, ht, rfl, hz, hbl, hO, bw, br⟩ := hrel
    rcases t with _ | s
    · obtain rfl : z = -1 := by omega
      clear hz
      go_wp2_with fail
      refine bodyPost_ret (v := .tuple #[.slice (some ⟨g, 0, none⟩) (x.steps.length + 1) c, .bool true]) (by simp [results, Try.results68, go_sem, *]) rfl ?_
      refine ⟨_, rfl, ?_, hbl⟩
      have h1 := hO.rgs
      have e : (List.range (x.steps.length + 1)).map (partN x m ways mlo mhi 0) = (List.range (x.steps.length + 1)).map (hadE x m ways mlo mhi) := List.map_congr_left fun j _ => by simp only [partN, if_pos (Nat.zero_le _)]
      rw [e] at h1
      exact h1
    · obtain rfl : z = (s : Int) := by omega
      clear hz
      have hs : s < x.steps.length := ht
      obtain ⟨u5, u6, u7, u8⟩ := bw.two
      obtain ⟨t5, t6, t7, t8⟩ := br.two
      have hz1 := bw.lt
      have hz2 := br.lt
      have hg0 := hO.lt
      obtain ⟨b1, o1, b2, o2, b3, o3, A1, A2, c1, c2, ws, mm, ks, rfl, rfl, rfl, hb1', hb2', hb3', hmm, f1, f2, f3, l1, l2, l3, l4, hks, hwo, hwe, hne0, _⟩ := way_at h.steps h.rways OK.out hs
      have f1' := (hbl.cell (p := ⟨b1, o1 + s, none⟩) (by simp only []; omega)).trans f1
      have f2' := (hbl.cell (p := ⟨b2, o2 + s, none⟩) (by simp only []; omega)).trans f2
      have f3' := (hbl.cell (p := ⟨b3, o3 + mm, none⟩) (by simp only []; omega)).trans f3
      have v1 : b1 < wr.heap.size := by omega
      have v2 : b2 < wr.heap.size := by omega
      have v3 : b3 < wr.heap.size := by omega
      have s7 : (s : Int) < (ways.length : Int) := by have := hwl.out; omega
      have s8 : (mm : Int) < (ws.length : Int) := by omega
      have s9 : (s : Int) < (x.steps.length : Int) := by omega
      clear hwe
      have hcells : ∀ V, Below wr.heap.size wr V → (V.cell? ⟨w.heap.size, 0 + 1, none⟩ = some (.slice (some ⟨b1, o1, none⟩) x.steps.length cs) ∧ V.cell? ⟨w.heap.size + 1, 0 + 1, none⟩ = some (.slice (some ⟨b2, o2, none⟩) ways.length cr) ∧
          V.cell? ⟨b1, o1 + s, none⟩ = some (.slice (some ⟨b3, o3, none⟩) ws.length c1) ∧ V.cell? ⟨b2, o2 + s, none⟩ = some (.int .i64 mm) ∧ V.cell? ⟨b3, o3 + mm, none⟩ = some (.slice A2 ks.length c2)) :=
        fun V hV => ⟨(Box.below bw hV hz1).cell 1, (Box.below br hV hz2).cell 1, (hV.cell (p := ⟨b1, o1 + s, none⟩) v1).trans f1', (hV.cell (p := ⟨b2, o2 + s, none⟩) v2).trans f2', (hV.cell (p := ⟨b3, o3 + mm, none⟩) v3).trans f3'⟩
      have HC := Lib.hid hcells
      clear hcells
      go_wp2_with fail
      go_region_held3 (fun V => V.cell? ⟨w.heap.size, 0 + 1, none⟩ = some (.slice (some ⟨b1, o1, none⟩) x.steps.length cs) ∧ V.cell? ⟨w.heap.size + 1, 0 + 1, none⟩ = some (.slice (some ⟨b2, o2, none⟩) ways.length cr) ∧
          V.cell? ⟨b1, o1 + s, none⟩ = some (.slice (some ⟨b3, o3, none⟩) ws.length c1) ∧ V.cell? ⟨b2, o2 + s, none⟩ = some (.int .i64 mm) ∧ V.cell? ⟨b3, o3 + mm, none⟩ = some (.slice A2 ks.length c2)) ((exact HC.out _ (by repeat (first | (with_reducible assumption) | (with_reducible exact Below.refl _ _) | ((with_reducible refine Below.alloc ?_ ?_ _); rotate_left; (focus (first | omega | (simp only [World.size_alloc, World.size_setCell, World.size_drew, World.heap_drewN]; first | done | omega)))) | ((with_reducible refine Below.setCell ?_ ?_ _); rotate_left; (focus (first | omega | (simp only [World.size_alloc, World.size_setCell, World.size_drew, World.heap_drewN]; first | done | omega)))) | (with_reducible refine below_drewN ?_ _) | (with_reducible refine Below.drew ?_) | ((with_reducible refine Below.trans ?_ (Below.mono (by assumption) ?_)); rotate_left; (focus (first | omega | (simp only [World.size_alloc, World.size_setCell, World.size_drew, World.heap_drewN]; first | done | omega)))))))) (fail)
      generalize hW0 : (wr.alloc (.cells #[.slice A2 ks.length c2] 28)).drew = W0
      have hbl0 : Below wr.heap.size wr W0 := by rw [← hW0]; exact (by repeat (first | (with_reducible assumption) | (with_reducible exact Below.refl _ _) | ((with_reducible refine Below.alloc ?_ ?_ _); rotate_left; (focus (first | omega | (simp only [World.size_alloc, World.size_setCell, World.size_drew, World.heap_drewN]; first | done | omega)))) | ((with_reducible refine Below.setCell ?_ ?_ _); rotate_left; (focus (first | omega | (simp only [World.size_alloc, World.size_setCell, World.size_drew, World.heap_drewN]; first | done | omega)))) | (with_reducible refine below_drewN ?_ _) | (with_reducible refine Below.drew ?_) | ((with_reducible refine Below.trans ?_ (Below.mono (by assumption) ?_)); rotate_left; (focus (first | omega | (simp only [World.size_alloc, World.size_setCell, World.size_drew, World.heap_drewN]; first | done | omega))))))
      have bk0 : Box W0 wr.heap.size 28 #[.slice A2 ks.length c2] := by rw [← hW0]; (refine Box.of_f ?_; repeat (first | ((with_reducible refine BoxF.done (by with_reducible assumption) ?_); rfl) | ((with_reducible refine BoxF.new ?_ ?_); (focus (first | omega | (simp only [World.size_alloc, World.size_setCell, World.size_drew, World.heap_drewN]; first | done | omega))); rfl) | ((with_reducible refine BoxF.alloc ?_ ?_); (focus (first | omega | (simp only [World.size_alloc, World.size_setCell, World.size_drew, World.heap_drewN]; first | done | omega)))) | (with_reducible refine BoxF.set ?_) | ((with_reducible refine BoxF.far ?_ ?_); ((try simp only []); omega)) | (with_reducible refine BoxF.drewN ?_) | (with_reducible refine BoxF.drew ?_) | ((with_reducible refine BoxF.below (by with_reducible assumption) ?_ ?_); (focus (first | omega | (simp only [World.size_alloc, World.size_setCell, World.size_drew, World.heap_drewN]; first | done | omega))))))
      have bw0 := Box.below bw hbl0 hz1
      have br0 := Box.below br hbl0 hz2
      have hO0 := hO.later hbl0 hg0
      have hb0 : Below w.heap.size w W0 := hbl.trans (hbl0.mono hbl.size)
      have hgk : g ≠ wr.heap.size := by omega
      have hgb := hO0.base
      generalize wr.heap.size = tk at bk0 hgk hz1 hz2 ⊢
      obtain ⟨ra', rb, hra⟩ : ∃ a b, rngN x m ways s = (a, b) := ⟨_, _, rfl⟩
      have hrv := rngN_val OK.out s (Nat.le_of_lt hs)
      rw [hra] at hrv
      simp only at hrv
      obtain ⟨ra, rfl⟩ := Int.eq_ofNat_of_zero_le hrv.1
      obtain ⟨L, H, hLH⟩ : ∃ a b, hadE x m ways mlo mhi (s + 1) = (a, b) := ⟨_, _, rfl⟩
      have hd : ∀ V, Below W0.heap.size W0 V → V.cell? ⟨g, s * 2, none⟩ = some (.int .i64 ra) ∧ V.cell? ⟨g, s * 2 + 1, none⟩ = some (.int .i64 rb) ∧ V.cell? ⟨g, (s + 1) * 2, none⟩ = some (.int .i64 L) ∧ V.cell? ⟨g, (s + 1) * 2 + 1, none⟩ = some (.int .i64 H) := fun V hV => by
        have hV' := hO0.later hV hO0.lt
        have h1 := hV'.lo s (by omega)
        have h2 := hV'.hi s (by omega)
        have h3 := hV'.lo (s + 1) (by omega)
        have h4 := hV'.hi (s + 1) (by omega)
        simp only [partN, if_neg (show ¬ s + 1 ≤ s by omega), hra] at h1 h2
        simp only [partN, if_pos (Nat.le_refl (s + 1)), hLH] at h3 h4
        exact ⟨h1, h2, h3, h4⟩
      have HD := Lib.hid hd
      have hkk : ∀ V, Below W0.heap.size W0 V → V.cell? ⟨tk, 0, none⟩ = some (.slice A2 ks.length c2) := fun V hV => (Box.below bk0 hV bk0.lt).cell 0
      have HK := Lib.hid hkk
      have haf : ∀ (n : Int) (V : World), Below W0.heap.size W0 V → Calls Try.prog 55 #[.agg #[.slice A2 ks.length c2], .int .i64 n] V fun e w' => e = .returned (.agg #[.int .i64 (aft ks n).1, .int .i64 (aft ks n).2]) ∧ Below V.heap.size V w' :=
        fun n V hV => refAfter_any A2 c2 ks n B V (kinks_on hks (n := w.heap.size) (hb0.trans (hV.mono hb0.size)) hB) l3 l4 (by have := hV.size; have := hb0.size; omega) hne0
      have HAF := Lib.hid haf
      have hhit : ∀ j : Nat, hitB x m ways mlo mhi s j = (decide ((aft ks j).1 ≤ H) && decide (L ≤ (aft ks j).2)) := fun j => by simp only [hitB, hwo.out, hLH]
      have HHIT := Lib.hid hhit
      have HRA := Lib.hid hra
      have hk0 := bk0.lt
      have hgl := hO0.lt
      have hbsz := hb0.size
      have s10 : IntKind.i64.wrap ((s : Int) + 1) = (s : Int) + 1 := IntWalk.i64_in _ (by omega)
      have s11 : (s : Int) + 1 < (x.steps.length : Int) + 1 := by omega
      have s12 : (s : Int) < (x.steps.length : Int) + 1 := by omega
      have s13 : (0 : Int) ≤ (s : Int) + 1 := by omega
      have s14 : ((s : Int) + 1).toNat = s + 1 := by omega
      clear hd hkk haf hhit hra hLH HC f1 f2 f3 f1' f2' f3' u5 u6 u7 u8 t5 t6 t7 t8 hW0 hks
      obtain ⟨d1, d2, d3, d4⟩ := HD.out W0 (Below.refl _ _)
      go_wp2_with fail
      obtain ⟨wo, rfl⟩ : ∃ wo : World, wo = wr := ⟨_, rfl⟩
      clear d1 d2 d3 d4
      go_loopw [12, 13, 14] (fun lo hi hh wr => ∃ (j : Nat) (zl zh : Int), ra ≤ j ∧ (j : Int) ≤ rb + 1 ∧ hh = .int .i64 j ∧ lo = .int .i64 zl ∧ hi = .int .i64 zh ∧ Scan (hitB x m ways mlo mhi s) ra j zl zh ∧ Below W0.heap.size W0 wr)
        (fun _ _ hh _ => (rb + 1 - intOf hh).toNat)
      case atStart => exact ⟨ra, -1, -1, Nat.le_refl _, by omega, rfl, rfl, rfl, Scan.start _ _, Below.refl _ _⟩
      case round =>
        obtain ⟨j, zl, zh, hj1, hj2, rfl, rfl, rfl, hsc, hbl2⟩ := hrel
        obtain ⟨d1, d2, d3, d4⟩ := HD.out _ hbl2
        have e1 := HK.out _ hbl2
        have y0 := hbl2.size
        have y1 : g < wr.heap.size := by omega
        have y2 : tk < wr.heap.size := by omega
        have hw1000 : (j : Int) ≤ 1001 := by omega
        by_cases hjr : (j : Int) ≤ rb
        · obtain ⟨pp, qq, hpq⟩ : ∃ a b, aft ks (j : Int) = (a, b) := ⟨_, _, rfl⟩
          have hhj := HHIT.out j
          rw [hpq] at hhj
          simp only at hhj
          have HPQ := Lib.hid hpq
          have HHJ := Lib.hid hhj
          clear hpq hhj
          by_cases c1 : pp ≤ H
          · by_cases c2 : L ≤ qq
            · have hyes : Hid (hitB x m ways mlo mhi s j = true) := Lib.hid (by rw [HHJ.out, decide_eq_true c1, decide_eq_true c2]; rfl)
              by_cases c3 : zl < 0
              · go_wp2_with (go_at_call 55; refine (HAF.out _ _ (by repeat (first | (with_reducible assumption) | (with_reducible exact Below.refl _ _) | ((with_reducible refine Below.alloc ?_ ?_ _); rotate_left; (focus (first | omega | (simp only [World.size_alloc, World.size_setCell, World.size_drew, World.heap_drewN]; first | done | omega)))) | ((with_reducible refine Below.setCell ?_ ?_ _); rotate_left; (focus (first | omega | (simp only [World.size_alloc, World.size_setCell, World.size_drew, World.heap_drewN]; first | done | omega)))) | (with_reducible refine below_drewN ?_ _) | (with_reducible refine Below.drew ?_) | ((with_reducible refine Below.trans ?_ (Below.mono (by assumption) ?_)); rotate_left; (focus (first | omega | (simp only [World.size_alloc, World.size_setCell, World.size_drew, World.heap_drewN]; first | done | omega))))))).mono ?_; rintro e w6 ⟨rfl, hb6⟩; rw [HPQ.out]; have hb6' : Below W0.heap.size W0 w6 := hbl2.trans (hb6.mono hbl2.size); obtain ⟨d1, d2, d3, d4⟩ := HD.out _ hb6'; have y6 := hb6'.size; have y7 : g < w6.heap.size := (by omega))
                go_quiet (fail)
                go_wp2_with fail
                go_roundw
                case rel => exact ⟨j + 1, j, j, by omega, by omega, by go_num, rfl, rfl, hsc.first c3 hj1 hyes.out, (by repeat (first | (with_reducible assumption) | (with_reducible exact Below.refl _ _) | ((with_reducible refine Below.alloc ?_ ?_ _); rotate_left; (focus (first | omega | (simp only [World.size_alloc, World.size_setCell, World.size_drew, World.heap_drewN]; first | done | omega)))) | ((with_reducible refine Below.setCell ?_ ?_ _); rotate_left; (focus (first | omega | (simp only [World.size_alloc, World.size_setCell, World.size_drew, World.heap_drewN]; first | done | omega)))) | (with_reducible refine below_drewN ?_ _) | (with_reducible refine Below.drew ?_) | ((with_reducible refine Below.trans ?_ (Below.mono (by assumption) ?_)); rotate_left; (focus (first | omega | (simp only [World.size_alloc, World.size_setCell, World.size_drew, World.heap_drewN]; first | done | omega))))))⟩
                case measure => simp [intOf]; omega
              · go_wp2_with (go_at_call 55; refine (HAF.out _ _ (by repeat (first | (with_reducible assumption) | (with_reducible exact Below.refl _ _) | ((with_reducible refine Below.alloc ?_ ?_ _); rotate_left; (focus (first | omega | (simp only [World.size_alloc, World.size_setCell, World.size_drew, World.heap_drewN]; first | done | omega)))) | ((with_reducible refine Below.setCell ?_ ?_ _); rotate_left; (focus (first | omega | (simp only [World.size_alloc, World.size_setCell, World.size_drew, World.heap_drewN]; first | done | omega)))) | (with_reducible refine below_drewN ?_ _) | (with_reducible refine Below.drew ?_) | ((with_reducible refine Below.trans ?_ (Below.mono (by assumption) ?_)); rotate_left; (focus (first | omega | (simp only [World.size_alloc, World.size_setCell, World.size_drew, World.heap_drewN]; first | done | omega))))))).mono ?_; rintro e w6 ⟨rfl, hb6⟩; rw [HPQ.out]; have hb6' : Below W0.heap.size W0 w6 := hbl2.trans (hb6.mono hbl2.size); obtain ⟨d1, d2, d3, d4⟩ := HD.out _ hb6'; have y6 := hb6'.size; have y7 : g < w6.heap.size := (by omega))
                go_quiet (fail)
                go_wp2_with fail
                go_roundw
                case rel => exact ⟨j + 1, zl, j, by omega, by omega, by go_num, rfl, rfl, hsc.more (by omega) hyes.out, (by repeat (first | (with_reducible assumption) | (with_reducible exact Below.refl _ _) | ((with_reducible refine Below.alloc ?_ ?_ _); rotate_left; (focus (first | omega | (simp only [World.size_alloc, World.size_setCell, World.size_drew, World.heap_drewN]; first | done | omega)))) | ((with_reducible refine Below.setCell ?_ ?_ _); rotate_left; (focus (first | omega | (simp only [World.size_alloc, World.size_setCell, World.size_drew, World.heap_drewN]; first | done | omega)))) | (with_reducible refine below_drewN ?_ _) | (with_reducible refine Below.drew ?_) | ((with_reducible refine Below.trans ?_ (Below.mono (by assumption) ?_)); rotate_left; (focus (first | omega | (simp only [World.size_alloc, World.size_setCell, World.size_drew, World.heap_drewN]; first | done | omega))))))⟩
                case measure => simp [intOf]; omega
            · have hno : Hid (hitB x m ways mlo mhi s j = false) := Lib.hid (by rw [HHJ.out, decide_eq_false c2, Bool.and_false])
              go_wp2_with (go_at_call 55; refine (HAF.out _ _ (by repeat (first | (with_reducible assumption) | (with_reducible exact Below.refl _ _) | ((with_reducible refine Below.alloc ?_ ?_ _); rotate_left; (focus (first | omega | (simp only [World.size_alloc, World.size_setCell, World.size_drew, World.heap_drewN]; first | done | omega)))) | ((with_reducible refine Below.setCell ?_ ?_ _); rotate_left; (focus (first | omega | (simp only [World.size_alloc, World.size_setCell, World.size_drew, World.heap_drewN]; first | done | omega)))) | (with_reducible refine below_drewN ?_ _) | (with_reducible refine Below.drew ?_) | ((with_reducible refine Below.trans ?_ (Below.mono (by assumption) ?_)); rotate_left; (focus (first | omega | (simp only [World.size_alloc, World.size_setCell, World.size_drew, World.heap_drewN]; first | done | omega))))))).mono ?_; rintro e w6 ⟨rfl, hb6⟩; rw [HPQ.out]; have hb6' : Below W0.heap.size W0 w6 := hbl2.trans (hb6.mono hbl2.size); obtain ⟨d1, d2, d3, d4⟩ := HD.out _ hb6'; have y6 := hb6'.size; have y7 : g < w6.heap.size := (by omega))
              go_quiet (fail)
              go_wp2_with fail
              go_roundw
              case rel => exact ⟨j + 1, zl, zh, by omega, by omega, by go_num, rfl, rfl, hsc.no hno.out, (by repeat (first | (with_reducible assumption) | (with_reducible exact Below.refl _ _) | ((with_reducible refine Below.alloc ?_ ?_ _); rotate_left; (focus (first | omega | (simp only [World.size_alloc, World.size_setCell, World.size_drew, World.heap_drewN]; first | done | omega)))) | ((with_reducible refine Below.setCell ?_ ?_ _); rotate_left; (focus (first | omega | (simp only [World.size_alloc, World.size_setCell, World.size_drew, World.heap_drewN]; first | done | omega)))) | (with_reducible refine below_drewN ?_ _) | (with_reducible refine Below.drew ?_) | ((with_reducible refine Below.trans ?_ (Below.mono (by assumption) ?_)); rotate_left; (focus (first | omega | (simp only [World.size_alloc, World.size_setCell, World.size_drew, World.heap_drewN]; first | done | omega))))))⟩
              case measure => simp [intOf]; omega
          · have hno : Hid (hitB x m ways mlo mhi s j = false) := Lib.hid (by rw [HHJ.out, decide_eq_false c1, Bool.false_and])
            have hd1 : decide (pp ≤ H) = false := by simpa using c1
            go_wp2_with (go_at_call 55; refine (HAF.out _ _ (by repeat (first | (with_reducible assumption) | (with_reducible exact Below.refl _ _) | ((with_reducible refine Below.alloc ?_ ?_ _); rotate_left; (focus (first | omega | (simp only [World.size_alloc, World.size_setCell, World.size_drew, World.heap_drewN]; first | done | omega)))) | ((with_reducible refine Below.setCell ?_ ?_ _); rotate_left; (focus (first | omega | (simp only [World.size_alloc, World.size_setCell, World.size_drew, World.heap_drewN]; first | done | omega)))) | (with_reducible refine below_drewN ?_ _) | (with_reducible refine Below.drew ?_) | ((with_reducible refine Below.trans ?_ (Below.mono (by assumption) ?_)); rotate_left; (focus (first | omega | (simp only [World.size_alloc, World.size_setCell, World.size_drew, World.heap_drewN]; first | done | omega))))))).mono ?_; rintro e w6 ⟨rfl, hb6⟩; rw [HPQ.out]; have hb6' : Below W0.heap.size W0 w6 := hbl2.trans (hb6.mono hbl2.size); obtain ⟨d1, d2, d3, d4⟩ := HD.out _ hb6'; have y6 := hb6'.size; have y7 : g < w6.heap.size := (by omega))
            go_quiet (fail)
            go_wp2_with fail
            go_roundw
            case rel => exact ⟨j + 1, zl, zh, by omega, by omega, by go_num, rfl, rfl, hsc.no hno.out, (by repeat (first | (with_reducible assumption) | (with_reducible exact Below.refl _ _) | ((with_reducible refine Below.alloc ?_ ?_ _); rotate_left; (focus (first | omega | (simp only [World.size_alloc, World.size_setCell, World.size_drew, World.heap_drewN]; first | done | omega)))) | ((with_reducible refine Below.setCell ?_ ?_ _); rotate_left; (focus (first | omega | (simp only [World.size_alloc, World.size_setCell, World.size_drew, World.heap_drewN]; first | done | omega)))) | (with_reducible refine below_drewN ?_ _) | (with_reducible refine Below.drew ?_) | ((with_reducible refine Below.trans ?_ (Below.mono (by assumption) ?_)); rotate_left; (focus (first | omega | (simp only [World.size_alloc, World.size_setCell, World.size_drew, World.heap_drewN]; first | done | omega))))))⟩
            case measure => simp [intOf]; omega
        · have hend := Scan.done OK.out HANY.out hs (by rw [HRA.out]; simp only [Int.toNat_natCast]; exact hsc) (by rw [HRA.out]; show (j : Int) = rb + 1; omega)
          have HEND := Lib.hid hend
          clear hend
          have hO2 := hO0.later hbl2 hgl
          have f0 := hO2.fz (s * 2)
          have f1 := hO2.fz (s * 2 + 1)
          have bw2 := Box.below bw0 hbl2 bw0.lt
          have br2 := Box.below br0 hbl2 br0.lt
          have hb2 : Below w.heap.size w wr := hb0.trans (hbl2.mono hb0.size)
          go_wp2_with fail
          have hO3 := (hO2.set (i := s) (by omega) zl zh).congr (f' := partN x m ways mlo mhi s) (fun j hj => by
            by_cases e : j = s
            · subst e; simp only [if_true, partN, if_pos (Nat.le_refl _), HEND.out]
            · simp only [if_neg e, partN]
              by_cases e2 : s + 1 ≤ j
              · rw [if_pos e2, if_pos (by omega)]
              · rw [if_neg e2, if_neg (by omega)])
          go_roundw
          case rel =>
            refine ⟨s, _, by omega, rfl, rfl, (by repeat (first | (with_reducible assumption) | (with_reducible exact Below.refl _ _) | ((with_reducible refine Below.alloc ?_ ?_ _); rotate_left; (focus (first | omega | (simp only [World.size_alloc, World.size_setCell, World.size_drew, World.heap_drewN]; first | done | omega)))) | ((with_reducible refine Below.setCell ?_ ?_ _); rotate_left; (focus (first | omega | (simp only [World.size_alloc, World.size_setCell, World.size_drew, World.heap_drewN]; first | done | omega)))) | (with_reducible refine below_drewN ?_ _) | (with_reducible refine Below.drew ?_) | ((with_reducible refine Below.trans ?_ (Below.mono (by assumption) ?_)); rotate_left; (focus (first | omega | (simp only [World.size_alloc, World.size_setCell, World.size_drew, World.heap_drewN]; first | done | omega)))))), hO3, ?_, ?_⟩
            all_goals (refine Box.of_f ?_; repeat (first | ((with_reducible refine BoxF.done (by with_reducible assumption) ?_); rfl) | ((with_reducible refine BoxF.new ?_ ?_); (focus (first | omega | (simp only [World.size_alloc, World.size_setCell, World.size_drew, World.heap_drewN]; first | done | omega))); rfl) | ((with_reducible refine BoxF.alloc ?_ ?_); (focus (first | omega | (simp only [World.size_alloc, World.size_setCell, World.size_drew, World.heap_drewN]; first | done | omega)))) | (with_reducible refine BoxF.set ?_) | ((with_reducible refine BoxF.far ?_ ?_); ((try simp only []); omega)) | (with_reducible refine BoxF.drewN ?_) | (with_reducible refine BoxF.drew ?_) | ((with_reducible refine BoxF.below (by with_reducible assumption) ?_ ?_); (focus (first | omega | (simp only [World.size_alloc, World.size_setCell, World.size_drew, World.heap_drewN]; first | done | omega))))))
          case measure => simp [intOf]
end Go.Proofs.Ytigpefjeelgfdaa
