/-
  HeatHarder returns true, for every works, recipe and hardnesses: harder ends of the range of the bar give no softer end of any range, and a wider range of the bar gives wider ranges. No condition.
-/
import Derived.Test.YtigpefjeelgfdaaCy2
import Derived.Deep.Onto
import Derived.Deep.AppendLies
import Derived.ProofKit
import Derived.OpenShut
import Derived.Below
import Derived.ChangeSame
import Derived.ReadAgain
import Derived.Deep.Slices
set_option linter.unusedSimpArgs false
set_option linter.unusedVariables false
/-
  Walks of layer 1's statements: HeatReached.
-/
namespace Go.Proofs.Ytigpefjeelgfdaa
open Go.RowKit

theorem ranges_own {Ab As Ar : Option Addr} {cb cs cr : Nat} {x : Works} {m : Nat} {ways : List Int} {B : Nat} {w : World} (h : In w B Ab As Ar cb cs cr x ways) (ok : RecOk x m ways) :
    CallsF 23 #[.agg #[.slice Ab x.bars.length cb, .slice As x.steps.length cs], .agg #[.int .i64 m, .slice Ar ways.length cr]] w (Fact.first (Fact.rgs (rngsOf x m ways)) (.int .i64 0)) := by
  have h1 := heatRanges_first (bar := (m : Int)) h
  rw [recOk_iff.2 ok] at h1
  exact h1
theorem check_own {Ab As Ar Ah : Option Addr} {cb cs cr ch nh : Nat} {x : Works} {m : Nat} {ways hist : List Int} {B : Nat} {w : World} (h : In w B Ab As Ar cb cs cr x ways) (hh : IntsA .i64 w B Ah hist) (hl : hist.length = nh) (c1 : nh ≤ ch) (c2 : ch ≤ 9223372036854775807) (he : histErr x m ways hist = 0) :
    Calls Try.prog 26 #[.agg #[.slice Ab x.bars.length cb, .slice As x.steps.length cs], .agg #[.int .i64 m, .slice Ar ways.length cr], .slice Ah nh ch] w fun e w' => e = .returned (.int .i64 0) ∧ Below w.heap.size w w' := by
  subst hl
  have h1 := heatCheckHistory_any Ab As Ar Ah cb cs cr ch x m ways hist B w h hh c1 c2
  rw [he] at h1
  exact h1
theorem history_own {Ab As Ar : Option Addr} {cb cs cr : Nat} {x : Works} {m : Nat} {ways : List Int} {lo hi : Int} {B : Nat} {w : World} (h : In w B Ab As Ar cb cs cr x ways) (hag : agrErr x m ways lo hi = 0) :
    CallsF 30 #[.agg #[.slice Ab x.bars.length cb, .slice As x.steps.length cs], .agg #[.int .i64 m, .slice Ar ways.length cr], .agg #[.int .i64 lo, .int .i64 hi]] w (Fact.first (Fact.ints (histVals x m ways lo hi)) (.int .i64 0)) := by
  refine (heatHistory_read h).imp fun v w' hv => ?_
  rw [hag] at hv
  obtain ⟨u, hu, h1, _⟩ := hv
  exact ⟨u, hu, h1 rfl⟩
theorem had_own {Ab As Ar : Option Addr} {cb cs cr : Nat} {x : Works} {m : Nat} {ways : List Int} {lo hi : Int} {B : Nat} {w : World} (h : In w B Ab As Ar cb cs cr x ways) (hag : agrErr x m ways lo hi = 0) :
    CallsF 28 #[.agg #[.slice Ab x.bars.length cb, .slice As x.steps.length cs], .agg #[.int .i64 m, .slice Ar ways.length cr], .agg #[.int .i64 lo, .int .i64 hi]] w (Fact.first (Fact.rgs (hadsOf x m ways lo hi)) (.int .i64 0)) := by
  have h1 := heatHad_first (bar := (m : Int)) (lo := lo) (hi := hi) h
  rw [hag] at h1
  exact h1
theorem check_val {Ab As Ar : Option Addr} {cb cs cr : Nat} {x : Works} {m : Nat} {ways hist : List Int} {v : Value} {w : World} (h : In w w.heap.size Ab As Ar cb cs cr x ways) (hv : (Fact.ints hist).holds v w) (he : histErr x m ways hist = 0) :
    Calls Try.prog 26 #[.agg #[.slice Ab x.bars.length cb, .slice As x.steps.length cs], .agg #[.int .i64 m, .slice Ar ways.length cr], v] w fun e w' => e = .returned (.int .i64 0) ∧ Below w.heap.size w w' := by
  obtain ⟨A, c, rfl, h1, h2, h3⟩ := hv
  exact check_own h h3 rfl h1 h2 he
theorem intsW_up {k : IntKind} {w w' : World} {B : Nat} {A : Option Addr} {l : List Int} (h : IntsW k w B A l) (hb : Below w.heap.size w w') (hB : B ≤ w.heap.size) : IntsW k w' w'.heap.size A l :=
  SLa.keep (intsW_on h hb hB) (Nat.le_trans hB hb.size) fun _ _ _ _ hx => hx
theorem In.up {w w' : World} {B : Nat} {Ab As Ar : Option Addr} {cb cs cr : Nat} {x : Works} {ways : List Int} (h : In w B Ab As Ar cb cs cr x ways) (hb : Below w.heap.size w w') : In w' w'.heap.size Ab As Ar cb cs cr x ways :=
  ((h.on hb h.le).drop).with_ (Below.refl _ _) (SLa.keep (ints_on h.rways hb h.le) (Nat.le_trans h.le hb.size) fun _ _ _ _ hx => hx) h.cr1 h.cr2

set_option maxRecDepth 100000 in
set_option maxHeartbeats 4000000 in
theorem reachedLaw_any (Ab As Ay Az : Option Addr) (cb cs cy cz : Nat) (x : Works) (recs by_ : List Int) (hard : Int) (B : Nat) (w : World) (h : In w B Ab As none cb cs 0 x []) (hy : IntsW .u8 w B Ay recs) (hy1 : recs.length ≤ cy) (hy2 : cy ≤ 9223372036854775807)
    (hz : IntsW .u32 w B Az by_) (hz1 : by_.length ≤ cz) (hz2 : cz ≤ 9223372036854775807) (hd0 : 0 ≤ hard) (hd1 : hard ≤ 65535) :
    Calls Try.prog 8 #[.agg #[.slice Ab x.bars.length cb, .slice As x.steps.length cs], .slice Ay recs.length cy, .slice Az by_.length cz, .int .u16 hard] w fun e w' => e = .returned (.bool true) ∧ Below w.heap.size w w' := by
  have hB := h.le
  have hgr : ∀ W : World, Below w.heap.size w W → Calls Try.prog 43 #[.agg #[.slice Ab x.bars.length cb, .slice As x.steps.length cs]] W fun e w' => e = .returned (.bool (fineB x)) ∧ Below W.heap.size W w' := fun W hW => fine_any Ab As cb cs x B W (h.on hW hB)
  have HG := Lib.hid hgr
  clear hgr
  cases hg : fineB x
  · have G := Lib.hid hg
    clear hg
    go_enter Try.func8, Try.ntmps8
    go_wp2_with (first
      | (go_at_call 43; refine (HG.out _ (by repeat (first | (with_reducible assumption) | (with_reducible exact Below.refl _ _) | ((with_reducible refine Below.alloc ?_ ?_ _); rotate_left; (focus (first | omega | (simp only [World.size_alloc, World.size_setCell, World.size_drew, World.heap_drewN]; first | done | omega)))) | ((with_reducible refine Below.setCell ?_ ?_ _); rotate_left; (focus (first | omega | (simp only [World.size_alloc, World.size_setCell, World.size_drew, World.heap_drewN]; first | done | omega)))) | (with_reducible refine below_drewN ?_ _) | (with_reducible refine Below.drew ?_) | ((with_reducible refine Below.trans ?_ (Below.mono (by assumption) ?_)); rotate_left; (focus (first | omega | (simp only [World.size_alloc, World.size_setCell, World.size_drew, World.heap_drewN]; first | done | omega))))))).mono ?_; rintro e w1 ⟨rfl, hb1⟩; rw [G.out]; obtain ⟨_hr1, _hr2⟩ := below_reads hb1; have _hz := Below.size hb1; (try simp only [World.size_alloc, World.size_setCell, World.size_drew, World.heap_drewN] at _hz); obtain ⟨_hr3, _hr4⟩ := below_reads (show Below w.heap.size w w1 from (by repeat (first | (with_reducible assumption) | (with_reducible exact Below.refl _ _) | ((with_reducible refine Below.alloc ?_ ?_ _); rotate_left; (focus (first | omega | (simp only [World.size_alloc, World.size_setCell, World.size_drew, World.heap_drewN]; first | done | omega)))) | ((with_reducible refine Below.setCell ?_ ?_ _); rotate_left; (focus (first | omega | (simp only [World.size_alloc, World.size_setCell, World.size_drew, World.heap_drewN]; first | done | omega)))) | (with_reducible refine below_drewN ?_ _) | (with_reducible refine Below.drew ?_) | ((with_reducible refine Below.trans ?_ (Below.mono (by assumption) ?_)); rotate_left; (focus (first | omega | (simp only [World.size_alloc, World.size_setCell, World.size_drew, World.heap_drewN]; first | done | omega))))))); have _q0 : w.heap.size < w1.heap.size := (by omega))
      | (go_at_call 16; refine (works_any _).mono ?_; rintro e w3 ⟨rfl, hb3⟩; obtain ⟨_hr1, _hr2⟩ := below_reads hb3; have _hz := Below.size hb3; (try simp only [World.size_alloc, World.size_setCell, World.size_drew, World.heap_drewN] at _hz); obtain ⟨_hr3, _hr4⟩ := below_reads (show Below w.heap.size w w3 from (by repeat (first | (with_reducible assumption) | (with_reducible exact Below.refl _ _) | ((with_reducible refine Below.alloc ?_ ?_ _); rotate_left; (focus (first | omega | (simp only [World.size_alloc, World.size_setCell, World.size_drew, World.heap_drewN]; first | done | omega)))) | ((with_reducible refine Below.setCell ?_ ?_ _); rotate_left; (focus (first | omega | (simp only [World.size_alloc, World.size_setCell, World.size_drew, World.heap_drewN]; first | done | omega)))) | (with_reducible refine below_drewN ?_ _) | (with_reducible refine Below.drew ?_) | ((with_reducible refine Below.trans ?_ (Below.mono (by assumption) ?_)); rotate_left; (focus (first | omega | (simp only [World.size_alloc, World.size_setCell, World.size_drew, World.heap_drewN]; first | done | omega))))))); have _q0 : w.heap.size < w3.heap.size := (by omega)))
    go_ret
    exact ⟨rfl, (by repeat (first | (with_reducible assumption) | (with_reducible exact Below.refl _ _) | ((with_reducible refine Below.alloc ?_ ?_ _); rotate_left; (focus (first | omega | (simp only [World.size_alloc, World.size_setCell, World.size_drew, World.heap_drewN]; first | done | omega)))) | ((with_reducible refine Below.setCell ?_ ?_ _); rotate_left; (focus (first | omega | (simp only [World.size_alloc, World.size_setCell, World.size_drew, World.heap_drewN]; first | done | omega)))) | (with_reducible refine below_drewN ?_ _) | (with_reducible refine Below.drew ?_) | ((with_reducible refine Below.trans ?_ (Below.mono (by assumption) ?_)); rotate_left; (focus (first | omega | (simp only [World.size_alloc, World.size_setCell, World.size_drew, World.heap_drewN]; first | done | omega))))))⟩
  have hw := fineB_works hg
  have G := Lib.hid hg
  clear hg
  by_cases n1 : 20 < recs.length
  · go_enter Try.func8, Try.ntmps8
    go_wp2_with (first
      | (go_at_call 43; refine (HG.out _ (by repeat (first | (with_reducible assumption) | (with_reducible exact Below.refl _ _) | ((with_reducible refine Below.alloc ?_ ?_ _); rotate_left; (focus (first | omega | (simp only [World.size_alloc, World.size_setCell, World.size_drew, World.heap_drewN]; first | done | omega)))) | ((with_reducible refine Below.setCell ?_ ?_ _); rotate_left; (focus (first | omega | (simp only [World.size_alloc, World.size_setCell, World.size_drew, World.heap_drewN]; first | done | omega)))) | (with_reducible refine below_drewN ?_ _) | (with_reducible refine Below.drew ?_) | ((with_reducible refine Below.trans ?_ (Below.mono (by assumption) ?_)); rotate_left; (focus (first | omega | (simp only [World.size_alloc, World.size_setCell, World.size_drew, World.heap_drewN]; first | done | omega))))))).mono ?_; rintro e w1 ⟨rfl, hb1⟩; rw [G.out]; obtain ⟨_hr1, _hr2⟩ := below_reads hb1; have _hz := Below.size hb1; (try simp only [World.size_alloc, World.size_setCell, World.size_drew, World.heap_drewN] at _hz); obtain ⟨_hr3, _hr4⟩ := below_reads (show Below w.heap.size w w1 from (by repeat (first | (with_reducible assumption) | (with_reducible exact Below.refl _ _) | ((with_reducible refine Below.alloc ?_ ?_ _); rotate_left; (focus (first | omega | (simp only [World.size_alloc, World.size_setCell, World.size_drew, World.heap_drewN]; first | done | omega)))) | ((with_reducible refine Below.setCell ?_ ?_ _); rotate_left; (focus (first | omega | (simp only [World.size_alloc, World.size_setCell, World.size_drew, World.heap_drewN]; first | done | omega)))) | (with_reducible refine below_drewN ?_ _) | (with_reducible refine Below.drew ?_) | ((with_reducible refine Below.trans ?_ (Below.mono (by assumption) ?_)); rotate_left; (focus (first | omega | (simp only [World.size_alloc, World.size_setCell, World.size_drew, World.heap_drewN]; first | done | omega))))))); have _q0 : w.heap.size < w1.heap.size := (by omega))
      | (go_at_call 16; refine (works_any _).mono ?_; rintro e w3 ⟨rfl, hb3⟩; obtain ⟨_hr1, _hr2⟩ := below_reads hb3; have _hz := Below.size hb3; (try simp only [World.size_alloc, World.size_setCell, World.size_drew, World.heap_drewN] at _hz); obtain ⟨_hr3, _hr4⟩ := below_reads (show Below w.heap.size w w3 from (by repeat (first | (with_reducible assumption) | (with_reducible exact Below.refl _ _) | ((with_reducible refine Below.alloc ?_ ?_ _); rotate_left; (focus (first | omega | (simp only [World.size_alloc, World.size_setCell, World.size_drew, World.heap_drewN]; first | done | omega)))) | ((with_reducible refine Below.setCell ?_ ?_ _); rotate_left; (focus (first | omega | (simp only [World.size_alloc, World.size_setCell, World.size_drew, World.heap_drewN]; first | done | omega)))) | (with_reducible refine below_drewN ?_ _) | (with_reducible refine Below.drew ?_) | ((with_reducible refine Below.trans ?_ (Below.mono (by assumption) ?_)); rotate_left; (focus (first | omega | (simp only [World.size_alloc, World.size_setCell, World.size_drew, World.heap_drewN]; first | done | omega))))))); have _q0 : w.heap.size < w3.heap.size := (by omega)))
    go_ret
    exact ⟨rfl, (by repeat (first | (with_reducible assumption) | (with_reducible exact Below.refl _ _) | ((with_reducible refine Below.alloc ?_ ?_ _); rotate_left; (focus (first | omega | (simp only [World.size_alloc, World.size_setCell, World.size_drew, World.heap_drewN]; first | done | omega)))) | ((with_reducible refine Below.setCell ?_ ?_ _); rotate_left; (focus (first | omega | (simp only [World.size_alloc, World.size_setCell, World.size_drew, World.heap_drewN]; first | done | omega)))) | (with_reducible refine below_drewN ?_ _) | (with_reducible refine Below.drew ?_) | ((with_reducible refine Below.trans ?_ (Below.mono (by assumption) ?_)); rotate_left; (focus (first | omega | (simp only [World.size_alloc, World.size_setCell, World.size_drew, World.heap_drewN]; first | done | omega))))))⟩
  by_cases n2 : 20 < by_.length
  · go_enter Try.func8, Try.ntmps8
    go_wp2_with (first
      | (go_at_call 43; refine (HG.out _ (by repeat (first | (with_reducible assumption) | (with_reducible exact Below.refl _ _) | ((with_reducible refine Below.alloc ?_ ?_ _); rotate_left; (focus (first | omega | (simp only [World.size_alloc, World.size_setCell, World.size_drew, World.heap_drewN]; first | done | omega)))) | ((with_reducible refine Below.setCell ?_ ?_ _); rotate_left; (focus (first | omega | (simp only [World.size_alloc, World.size_setCell, World.size_drew, World.heap_drewN]; first | done | omega)))) | (with_reducible refine below_drewN ?_ _) | (with_reducible refine Below.drew ?_) | ((with_reducible refine Below.trans ?_ (Below.mono (by assumption) ?_)); rotate_left; (focus (first | omega | (simp only [World.size_alloc, World.size_setCell, World.size_drew, World.heap_drewN]; first | done | omega))))))).mono ?_; rintro e w1 ⟨rfl, hb1⟩; rw [G.out]; obtain ⟨_hr1, _hr2⟩ := below_reads hb1; have _hz := Below.size hb1; (try simp only [World.size_alloc, World.size_setCell, World.size_drew, World.heap_drewN] at _hz); obtain ⟨_hr3, _hr4⟩ := below_reads (show Below w.heap.size w w1 from (by repeat (first | (with_reducible assumption) | (with_reducible exact Below.refl _ _) | ((with_reducible refine Below.alloc ?_ ?_ _); rotate_left; (focus (first | omega | (simp only [World.size_alloc, World.size_setCell, World.size_drew, World.heap_drewN]; first | done | omega)))) | ((with_reducible refine Below.setCell ?_ ?_ _); rotate_left; (focus (first | omega | (simp only [World.size_alloc, World.size_setCell, World.size_drew, World.heap_drewN]; first | done | omega)))) | (with_reducible refine below_drewN ?_ _) | (with_reducible refine Below.drew ?_) | ((with_reducible refine Below.trans ?_ (Below.mono (by assumption) ?_)); rotate_left; (focus (first | omega | (simp only [World.size_alloc, World.size_setCell, World.size_drew, World.heap_drewN]; first | done | omega))))))); have _q0 : w.heap.size < w1.heap.size := (by omega))
      | (go_at_call 16; refine (works_any _).mono ?_; rintro e w3 ⟨rfl, hb3⟩; obtain ⟨_hr1, _hr2⟩ := below_reads hb3; have _hz := Below.size hb3; (try simp only [World.size_alloc, World.size_setCell, World.size_drew, World.heap_drewN] at _hz); obtain ⟨_hr3, _hr4⟩ := below_reads (show Below w.heap.size w w3 from (by repeat (first | (with_reducible assumption) | (with_reducible exact Below.refl _ _) | ((with_reducible refine Below.alloc ?_ ?_ _); rotate_left; (focus (first | omega | (simp only [World.size_alloc, World.size_setCell, World.size_drew, World.heap_drewN]; first | done | omega)))) | ((with_reducible refine Below.setCell ?_ ?_ _); rotate_left; (focus (first | omega | (simp only [World.size_alloc, World.size_setCell, World.size_drew, World.heap_drewN]; first | done | omega)))) | (with_reducible refine below_drewN ?_ _) | (with_reducible refine Below.drew ?_) | ((with_reducible refine Below.trans ?_ (Below.mono (by assumption) ?_)); rotate_left; (focus (first | omega | (simp only [World.size_alloc, World.size_setCell, World.size_drew, World.heap_drewN]; first | done | omega))))))); have _q0 : w.heap.size < w3.heap.size := (by omega)))
    go_ret
    exact ⟨rfl, (by repeat (first | (with_reducible assumption) | (with_reducible exact Below.refl _ _) | ((with_reducible refine Below.alloc ?_ ?_ _); rotate_left; (focus (first | omega | (simp only [World.size_alloc, World.size_setCell, World.size_drew, World.heap_drewN]; first | done | omega)))) | ((with_reducible refine Below.setCell ?_ ?_ _); rotate_left; (focus (first | omega | (simp only [World.size_alloc, World.size_setCell, World.size_drew, World.heap_drewN]; first | done | omega)))) | (with_reducible refine below_drewN ?_ _) | (with_reducible refine Below.drew ?_) | ((with_reducible refine Below.trans ?_ (Below.mono (by assumption) ?_)); rotate_left; (focus (first | omega | (simp only [World.size_alloc, World.size_setCell, World.size_drew, World.heap_drewN]; first | done | omega))))))⟩
  have hone : ∀ W : World, Below w.heap.size w W → Calls Try.prog 44 #[.agg #[.slice Ab x.bars.length cb, .slice As x.steps.length cs], .slice Ay recs.length cy] W (RetRec x W) := fun W hW => one_ok Ab As Ay cb cs cy x recs B W (h.on hW hB) (intsW_on hy hW hB) hy1 hy2 hw
  have HONE := Lib.hid hone
  have hyz : ∀ W : World, Below w.heap.size w W → IntsW .u32 W W.heap.size Az by_ := fun W hW => intsW_up hz hW hB
  have HZ := Lib.hid hyz
  have hin : ∀ W : World, Below w.heap.size w W → In W W.heap.size Ab As none cb cs 0 x [] := fun W hW => h.up hW
  have HIN := Lib.hid hin
  clear hone hyz hin h hy hz hw
  have hs6 : x.steps.length ≤ 6 := by
    have := fineB_works G.out
    exact steps_few this
  go_enter Try.func8, Try.ntmps8
  go_wp2_with (first
    | (go_at_call 43; refine (HG.out _ (by repeat (first | (with_reducible assumption) | (with_reducible exact Below.refl _ _) | ((with_reducible refine Below.alloc ?_ ?_ _); rotate_left; (focus (first | omega | (simp only [World.size_alloc, World.size_setCell, World.size_drew, World.heap_drewN]; first | done | omega)))) | ((with_reducible refine Below.setCell ?_ ?_ _); rotate_left; (focus (first | omega | (simp only [World.size_alloc, World.size_setCell, World.size_drew, World.heap_drewN]; first | done | omega)))) | (with_reducible refine below_drewN ?_ _) | (with_reducible refine Below.drew ?_) | ((with_reducible refine Below.trans ?_ (Below.mono (by assumption) ?_)); rotate_left; (focus (first | omega | (simp only [World.size_alloc, World.size_setCell, World.size_drew, World.heap_drewN]; first | done | omega))))))).mono ?_; rintro e w1 ⟨rfl, hb1⟩; rw [G.out]; obtain ⟨_hr1, _hr2⟩ := below_reads hb1; have _hz := Below.size hb1; (try simp only [World.size_alloc, World.size_setCell, World.size_drew, World.heap_drewN] at _hz); obtain ⟨_hr3, _hr4⟩ := below_reads (show Below w.heap.size w w1 from (by repeat (first | (with_reducible assumption) | (with_reducible exact Below.refl _ _) | ((with_reducible refine Below.alloc ?_ ?_ _); rotate_left; (focus (first | omega | (simp only [World.size_alloc, World.size_setCell, World.size_drew, World.heap_drewN]; first | done | omega)))) | ((with_reducible refine Below.setCell ?_ ?_ _); rotate_left; (focus (first | omega | (simp only [World.size_alloc, World.size_setCell, World.size_drew, World.heap_drewN]; first | done | omega)))) | (with_reducible refine below_drewN ?_ _) | (with_reducible refine Below.drew ?_) | ((with_reducible refine Below.trans ?_ (Below.mono (by assumption) ?_)); rotate_left; (focus (first | omega | (simp only [World.size_alloc, World.size_setCell, World.size_drew, World.heap_drewN]; first | done | omega))))))); have _q0 : w.heap.size < w1.heap.size := (by omega))
    | (go_at_call 44; refine (HONE.out _ (by repeat (first | (with_reducible assumption) | (with_reducible exact Below.refl _ _) | ((with_reducible refine Below.alloc ?_ ?_ _); rotate_left; (focus (first | omega | (simp only [World.size_alloc, World.size_setCell, World.size_drew, World.heap_drewN]; first | done | omega)))) | ((with_reducible refine Below.setCell ?_ ?_ _); rotate_left; (focus (first | omega | (simp only [World.size_alloc, World.size_setCell, World.size_drew, World.heap_drewN]; first | done | omega)))) | (with_reducible refine below_drewN ?_ _) | (with_reducible refine Below.drew ?_) | ((with_reducible refine Below.trans ?_ (Below.mono (by assumption) ?_)); rotate_left; (focus (first | omega | (simp only [World.size_alloc, World.size_setCell, World.size_drew, World.heap_drewN]; first | done | omega))))))).mono ?_; rintro e w2 ⟨bar, Ar, cr, ways, rfl, ok, hr, hr1, hr2, hb2⟩; obtain ⟨m, hbar⟩ := Int.eq_ofNat_of_zero_le ok.bar0; subst hbar; have OK := Lib.hid ok; have HI := Lib.hid ((HIN.out w2 (by repeat (first | (with_reducible assumption) | (with_reducible exact Below.refl _ _) | ((with_reducible refine Below.alloc ?_ ?_ _); rotate_left; (focus (first | omega | (simp only [World.size_alloc, World.size_setCell, World.size_drew, World.heap_drewN]; first | done | omega)))) | ((with_reducible refine Below.setCell ?_ ?_ _); rotate_left; (focus (first | omega | (simp only [World.size_alloc, World.size_setCell, World.size_drew, World.heap_drewN]; first | done | omega)))) | (with_reducible refine below_drewN ?_ _) | (with_reducible refine Below.drew ?_) | ((with_reducible refine Below.trans ?_ (Below.mono (by assumption) ?_)); rotate_left; (focus (first | omega | (simp only [World.size_alloc, World.size_setCell, World.size_drew, World.heap_drewN]; first | done | omega))))))).with_ (Below.refl _ _) hr hr1 hr2); clear ok hr hr1 hr2; obtain ⟨_hr1, _hr2⟩ := below_reads hb2; have _hz := Below.size hb2; (try simp only [World.size_alloc, World.size_setCell, World.size_drew, World.heap_drewN] at _hz); obtain ⟨_hr3, _hr4⟩ := below_reads (show Below w.heap.size w w2 from (by repeat (first | (with_reducible assumption) | (with_reducible exact Below.refl _ _) | ((with_reducible refine Below.alloc ?_ ?_ _); rotate_left; (focus (first | omega | (simp only [World.size_alloc, World.size_setCell, World.size_drew, World.heap_drewN]; first | done | omega)))) | ((with_reducible refine Below.setCell ?_ ?_ _); rotate_left; (focus (first | omega | (simp only [World.size_alloc, World.size_setCell, World.size_drew, World.heap_drewN]; first | done | omega)))) | (with_reducible refine below_drewN ?_ _) | (with_reducible refine Below.drew ?_) | ((with_reducible refine Below.trans ?_ (Below.mono (by assumption) ?_)); rotate_left; (focus (first | omega | (simp only [World.size_alloc, World.size_setCell, World.size_drew, World.heap_drewN]; first | done | omega))))))); have _q0 : w.heap.size < w2.heap.size := (by omega)))
  have B4 : Box (w2.alloc (.cells #[.int .i64 m, .slice Ar ways.length cr] 42)) w.heap.size 25 #[.slice Ab x.bars.length cb, .slice As x.steps.length cs] := by (refine Box.of_f ?_; repeat (first | ((with_reducible refine BoxF.done (by with_reducible assumption) ?_); rfl) | ((with_reducible refine BoxF.new ?_ ?_); (focus (first | omega | (simp only [World.size_alloc, World.size_setCell, World.size_drew, World.heap_drewN]; first | done | omega))); rfl) | ((with_reducible refine BoxF.alloc ?_ ?_); (focus (first | omega | (simp only [World.size_alloc, World.size_setCell, World.size_drew, World.heap_drewN]; first | done | omega)))) | (with_reducible refine BoxF.set ?_) | ((with_reducible refine BoxF.far ?_ ?_); ((try simp only []); omega)) | (with_reducible refine BoxF.drewN ?_) | (with_reducible refine BoxF.drew ?_) | ((with_reducible refine BoxF.below (by with_reducible assumption) ?_ ?_); (focus (first | omega | (simp only [World.size_alloc, World.size_setCell, World.size_drew, World.heap_drewN]; first | done | omega))))))
  have B9 : Box (w2.alloc (.cells #[.int .i64 m, .slice Ar ways.length cr] 42)) w2.heap.size 42 #[.int .i64 m, .slice Ar ways.length cr] := Box.new _ _ _
  have hW1 : Below w.heap.size w (w2.alloc (.cells #[.int .i64 m, .slice Ar ways.length cr] 42)) := (by repeat (first | (with_reducible assumption) | (with_reducible exact Below.refl _ _) | ((with_reducible refine Below.alloc ?_ ?_ _); rotate_left; (focus (first | omega | (simp only [World.size_alloc, World.size_setCell, World.size_drew, World.heap_drewN]; first | done | omega)))) | ((with_reducible refine Below.setCell ?_ ?_ _); rotate_left; (focus (first | omega | (simp only [World.size_alloc, World.size_setCell, World.size_drew, World.heap_drewN]; first | done | omega)))) | (with_reducible refine below_drewN ?_ _) | (with_reducible refine Below.drew ?_) | ((with_reducible refine Below.trans ?_ (Below.mono (by assumption) ?_)); rotate_left; (focus (first | omega | (simp only [World.size_alloc, World.size_setCell, World.size_drew, World.heap_drewN]; first | done | omega))))))
  have hi1 : ∀ V, Below (w2.alloc (.cells #[.int .i64 m, .slice Ar ways.length cr] 42)).heap.size (w2.alloc (.cells #[.int .i64 m, .slice Ar ways.length cr] 42)) V → In V V.heap.size Ab As Ar cb cs cr x ways := fun V hV => HI.out.up (((Below.refl _ _).alloc (Nat.le_refl _) _).trans (hV.mono (by simp)))
  have HI1 := Lib.hid hi1
  clear hi1 HI
  generalize w2.alloc (.cells #[.int .i64 m, .slice Ar ways.length cr] 42) = W1 at B4 B9 hW1 HI1 ⊢
  have H4 := box_cells2 B4
  have H9 := box_cells2 B9
  have l4 := B4.lt
  have l9 := B9.lt
  have hz1' : ∀ V, Below W1.heap.size W1 V → IntsW .u32 V V.heap.size Az by_ := fun V hV => HZ.out V (hW1.trans (hV.mono hW1.size))
  have HZ1 := Lib.hid hz1'
  clear hz1' HZ HIN HONE B4 B9 hb1 hb2 _hr1 _hr2 _hr3 _hr4 _hz _q0
  generalize w2.heap.size = t9 at H9 l9 ⊢
  obtain ⟨a0, a1⟩ := H4.out W1 (Below.refl _ _)
  obtain ⟨a2, a3⟩ := H9.out W1 (Below.refl _ _)
  ((with_reducible refine (true_ok _ _ _ _ _ _ _ _ _ _ _ _ _ _ (HI1.out W1 (Below.refl _ _)) (HZ1.out W1 (Below.refl _ _)) hz1 hz2 OK.out).mono ?_))
  rintro e w3 ⟨Ah, ch, hist, he0, he, hlh, hA, hc1, hc2, d3⟩
  rw [hlh] at he0 hc1
  subst he0
  obtain ⟨bh, oh, rfl, hbh, hx⟩ := id hA (by omega)
  have HE := Lib.hid he
  have HLH := Lib.hid hlh
  have kh : ∀ V, Below w3.heap.size w3 V → ∀ i, i ≤ x.steps.length → V.cell? ⟨bh, oh + i, none⟩ = some (.int .i64 (intAt hist i)) := fun V hV i hi => by
    have h4 : hist[i]? = some hist[i] := List.getElem?_eq_getElem (by omega)
    have h5 := hx i hist[i] h4
    rw [intAt_of (Lib.hid h4)]
    rw [Nat.mul_one] at h5
    exact (hV.cell (p := ⟨bh, oh + i, none⟩) hbh).trans h5
  have KH := Lib.hid kh
  have hha : ∀ V, Below w3.heap.size w3 V → IntsA .i64 V V.heap.size (some ⟨bh, oh, none⟩) hist := fun V hV => SLa.keep (ints_on hA hV (Nat.le_refl _)) hV.size fun _ _ _ _ hx => hx
  have HHA := Lib.hid hha
  have R3 : Below W1.heap.size W1 w3 := d3
  have y3 := d3.size
  clear kh hha hx hA he hlh d3 a0 a1 a2 a3 HZ1
  obtain ⟨a0, a1⟩ := H4.out w3 R3
  obtain ⟨a2, a3⟩ := H9.out w3 R3
  go_wp2_with fail
  refine Calls.mono (ranges_own (HI1.out w3 R3) OK.out) ?_
  rintro e w4 ⟨_, rfl, ⟨vl, rfl, pl⟩, d4⟩
  obtain ⟨Al, cl, hvl, kl1, kl2, kl3⟩ := rgs_at pl
  rw [rngsOf_len] at hvl kl1 kl3
  obtain ⟨bl, ol, rfl, hbl, kl4⟩ := kl3 (by omega)
  subst hvl
  have kl5 : ∀ V, Below w4.heap.size w4 V → ∀ i, i ≤ x.steps.length → V.cell? ⟨bl, ol + i * 2, none⟩ = some (.int .i64 (rngN x m ways i).1) ∧ V.cell? ⟨bl, ol + i * 2 + 1, none⟩ = some (.int .i64 (rngN x m ways i).2) := fun V hV i hi => kl4 V hV i _ (rngsOf_at hi)
  have KL := Lib.hid kl5
  have R4 : Below W1.heap.size W1 w4 := R3.trans (d4.mono R3.size)
  have T4 : Below w3.heap.size w3 w4 := d4
  have y4 := d4.size
  clear kl4 kl5 kl3 pl d4 a0 a1 a2 a3
  obtain ⟨a0, a1⟩ := H4.out w4 R4
  obtain ⟨a2, a3⟩ := H9.out w4 R4
  go_wp2_with fail
  ((with_reducible refine (check_own (HI1.out w4 R4) (HHA.out w4 T4) HLH.out hc1 hc2 HE.out).mono ?_))
  rintro e w5 ⟨rfl, d5⟩
  have R5 : Below W1.heap.size W1 w5 := R4.trans (d5.mono R4.size)
  have T5 : Below w3.heap.size w3 w5 := T4.trans (d5.mono T4.size)
  have S5 : Below w4.heap.size w4 w5 := d5
  clear d5 a0 a1 a2 a3
  obtain ⟨a0, a1⟩ := H4.out w5 R5
  obtain ⟨a2, a3⟩ := H9.out w5 R5
  have y5 := R5.size
  have z3 := T5.size
  have z4 := S5.size
  go_wp2_with fail
  go_loopw [13] (fun i wr => ∃ k : Nat, k ≤ x.steps.length + 1 ∧ i = .int .i64 k ∧ Below w5.heap.size w5 wr) (fun i _ => x.steps.length + 1 - (intOf i).toNat)
  case atStart => exact ⟨0, by omega, rfl, Below.refl _ _⟩
  case round =>
    obtain ⟨k, hk, rfl, hb⟩ := hrel
    have yw := hb.size
    by_cases hlt : k ≤ x.steps.length
    · have g1 := KH.out wr (T5.trans (hb.mono T5.size)) k hlt
      obtain ⟨g2, g3⟩ := KL.out wr (S5.trans (hb.mono S5.size)) k hlt
      have hv := rngN_val OK.out k hlt
      have hi := hist_rng OK.out HE.out HLH.out k hlt
      obtain ⟨lo, hi', hlo⟩ : ∃ a b, rngN x m ways k = (a, b) := ⟨_, _, rfl⟩
      rw [hlo] at g2 g3 hv hi
      simp only at g2 g3 hv hi
      generalize intAt hist k = hh at g1 hi
      have P1 : Hid (inB hh lo hi' = true) := Lib.hid (by simp only [inB, decide_eq_true_eq]; exact hi)
      have P2 : Hid (isHardB lo hi' = true) := Lib.hid (isHardB_iff.2 hv)
      have v1 : bh < wr.heap.size := by omega
      have v2 : bl < wr.heap.size := by omega
      have s1 : (k : Int) < (x.steps.length : Int) + 1 := by omega
      clear hlo hv hi
      go_wp2_with fail
      refine wp_region_later (by kernel_rfl) (by kernel_rfl) ?_; have _hl := later_reads (wr); (repeat (go_big_quiet_step ((first | (go_at_call 46; have q := refIn_any hh lo hi'; rw [P1.out] at q; exact LaterW.calls (q _)) | (go_at_call 47; have q := refIsHard_any lo hi'; rw [P2.out] at q; exact LaterW.calls (q _)))))); refine wpQuiet_nil ?_; intro w6 hw'; have hb_w6 := later_below hw'; clear hw' _hl
      go_wp2_with fail
      go_roundw
      case rel => exact ⟨k + 1, by omega, by go_num, hb.trans (hb_w6.mono hb.size)⟩
      case measure => simp [intOf]; omega
    · obtain rfl : k = x.steps.length + 1 := by omega
      obtain ⟨b0, b1⟩ := H4.out wr (R5.trans (hb.mono R5.size))
      obtain ⟨b2, b3⟩ := H9.out wr (R5.trans (hb.mono R5.size))
      obtain ⟨g2, g3⟩ := KL.out wr (S5.trans (hb.mono S5.size)) x.steps.length (Nat.le_refl _)
      have hv := rngN_val OK.out x.steps.length (Nat.le_refl _)
      obtain ⟨lo, hi', hlo⟩ : ∃ a b, rngN x m ways x.steps.length = (a, b) := ⟨_, _, rfl⟩
      rw [hlo] at g2 g3 hv
      simp only at g2 g3 hv
      have HLO := Lib.hid hlo
      have v1 : bl < wr.heap.size := by omega
      clear hlo a0 a1 a2 a3
      go_wp2_with fail
      have R6 : Below W1.heap.size W1 (wr.alloc (.cells #[.int .i64 lo, .int .i64 hi'] 33)) := (R5.trans (hb.mono R5.size)).alloc (by omega) _
      have S6 : Below w4.heap.size w4 (wr.alloc (.cells #[.int .i64 lo, .int .i64 hi'] 33)) := (S5.trans (hb.mono S5.size)).alloc (by omega) _
      have B14 : Box (wr.alloc (.cells #[.int .i64 lo, .int .i64 hi'] 33)) wr.heap.size 33 #[.int .i64 lo, .int .i64 hi'] := Box.new _ _ _
      have H14 := box_cells2 B14
      have l14 := B14.lt
      generalize wr.alloc (.cells #[.int .i64 lo, .int .i64 hi'] 33) = W2 at R6 S6 H14 l14 ⊢
      generalize wr.heap.size = t14 at H14 l14 ⊢
      clear B14 b0 b1 b2 b3 g2 g3 v1
      have hin := pick_in hv.2.1 hd0
      have s1 : IntKind.i64.wrap (hi' - lo) = hi' - lo := IntWalk.i64_in _ (by omega)
      have s2 : IntKind.i64.wrap (hi' - lo + 1) = hi' - lo + 1 := IntWalk.i64_in _ (by omega)
      have s3 : ¬ hi' - lo + 1 = 0 := by omega
      have s4 : hard.tmod (hi' - lo + 1) = hard % (hi' - lo + 1) := Int.tmod_eq_emod_of_nonneg (by omega)
      have s5 : IntKind.i64.wrap (lo + hard % (hi' - lo + 1)) = lo + hard % (hi' - lo + 1) := IntWalk.i64_in _ (by omega)
      have s5' : wrap64 (lo + hard % (hi' - lo + 1)) = lo + hard % (hi' - lo + 1) := wrap_low (by omega) (by omega)
      have s6 : IntKind.i64.wrap hard = hard := IntWalk.i64_in _ (by omega)
      generalize hhv : (lo + hard % (hi' - lo + 1)) = e3 at hin
      replace s5 := s5.trans hhv
      replace s5' := s5'.trans hhv
      clear hhv
      go_region_held3 (fun V => V.cell? ⟨t14, 0, none⟩ = some (.int .i64 lo) ∧ V.cell? ⟨t14, 0 + 1, none⟩ = some (.int .i64 hi')) ((exact H14.out _ (by repeat (first | (with_reducible assumption) | (with_reducible exact Below.refl _ _) | ((with_reducible refine Below.alloc ?_ ?_ _); rotate_left; (focus (first | omega | (simp only [World.size_alloc, World.size_setCell, World.size_drew, World.heap_drewN]; first | done | omega)))) | ((with_reducible refine Below.setCell ?_ ?_ _); rotate_left; (focus (first | omega | (simp only [World.size_alloc, World.size_setCell, World.size_drew, World.heap_drewN]; first | done | omega)))) | (with_reducible refine below_drewN ?_ _) | (with_reducible refine Below.drew ?_) | ((with_reducible refine Below.trans ?_ (Below.mono (by assumption) ?_)); rotate_left; (focus (first | omega | (simp only [World.size_alloc, World.size_setCell, World.size_drew, World.heap_drewN]; first | done | omega)))))))) (fail)
      clear s1 s2 s3 s4 s5 s5' s6
      have R7 : Below W1.heap.size W1 (W2.alloc (.cells #[.int .i64 lo, .int .i64 hi', .int .i64 e3] 2)).drew := (R6.alloc (by have := R6.size; omega) _).drew
      have S7 : Below w4.heap.size w4 (W2.alloc (.cells #[.int .i64 lo, .int .i64 hi', .int .i64 e3] 2)).drew := (S6.alloc (by have := S6.size; omega) _).drew
      have BE : Box (W2.alloc (.cells #[.int .i64 lo, .int .i64 hi', .int .i64 e3] 2)).drew W2.heap.size 2 #[.int .i64 lo, .int .i64 hi', .int .i64 e3] := Box.new _ _ _
      generalize (W2.alloc (.cells #[.int .i64 lo, .int .i64 hi', .int .i64 e3] 2)).drew = W3 at R7 S7 BE ⊢
      generalize W2.heap.size = tE at BE ⊢
      have lE := BE.lt
      obtain ⟨ef, hef⟩ : ∃ ef : Nat → Int, ef = fun k => if k = 0 then lo else if k = 1 then hi' else e3 := ⟨_, rfl⟩
      have hee : ∀ k, k < 3 → lo ≤ ef k ∧ ef k ≤ hi' ∧ ∀ V, Below W3.heap.size W3 V → V.cell? ⟨tE, k, none⟩ = some (.int .i64 (ef k)) := by
        intro k hk
        rcases k with _ | _ | _ | k
        · refine ⟨by rw [hef]; exact Int.le_refl _, by rw [hef]; exact hv.2.1, fun V hV => ?_⟩
          rw [(Box.below BE hV lE).cell, hef]; rfl
        · refine ⟨by rw [hef]; exact hv.2.1, by rw [hef]; exact Int.le_refl _, fun V hV => ?_⟩
          rw [(Box.below BE hV lE).cell, hef]; rfl
        · refine ⟨by rw [hef]; exact hin.1, by rw [hef]; exact hin.2, fun V hV => ?_⟩
          rw [(Box.below BE hV lE).cell, hef]; rfl
        · omega
      have HEE := Lib.hid hee
      have y7 := R7.size
      have x7 := S7.size
      clear hee hef BE H14 l14 R6 S6 hin
      go_wp2_with fail
      clear yw hb
      go_loopw [16] (fun i wr => ∃ k : Nat, k ≤ 3 ∧ i = .int .i64 k ∧ Below W3.heap.size W3 wr) (fun i _ => 3 - (intOf i).toNat)
      case atStart => exact ⟨0, by omega, rfl, Below.refl _ _⟩
      case round =>
        obtain ⟨k, hk, rfl, hb⟩ := hrel
        have yw := hb.size
        by_cases hlt : k < 3
        · obtain ⟨q1, q2, q3⟩ := HEE.out k hlt
          have c1 := q3 wr hb
          generalize ef k = e at q1 q2 c1
          clear q3
          have v1 : tE < wr.heap.size := by omega
          have s1 : (k : Int) < 3 := by omega
          go_wp2_with fail
          refine wp_join (R := fun a a' w' => ∃ (g : Nat) (x0 x1 x2 x3 x4 x5 x6 x7 x8 : Value), a' = (((((((((a.put (some 117) x0).put (some 118) x1).put (some 119) x2).put (some 120) x3).put (some 121) x4).put (some 122) x5).put (some 123) x6).put (some 124) x7).put (some 125) x8).put (some 17) (.pointer (some ⟨g, 0, none⟩)) ∧ Box w' g 33 #[.int .i64 e, .int .i64 e] ∧ wr.heap.size ≤ g ∧ Below wr.heap.size wr w') ?_ ?_
          · have hc2 : ∀ V, Below wr.heap.size wr V → V.cell? ⟨tE, k, none⟩ = some (.int .i64 e) := fun V hV => (hV.cell (p := ⟨tE, k, none⟩) v1).trans c1
            have HC := Lib.hid hc2
            clear hc2
            go_region_held3 (fun V => V.cell? ⟨tE, k, none⟩ = some (.int .i64 e)) ((exact HC.out _ (by repeat (first | (with_reducible assumption) | (with_reducible exact Below.refl _ _) | ((with_reducible refine Below.alloc ?_ ?_ _); rotate_left; (focus (first | omega | (simp only [World.size_alloc, World.size_setCell, World.size_drew, World.heap_drewN]; first | done | omega)))) | ((with_reducible refine Below.setCell ?_ ?_ _); rotate_left; (focus (first | omega | (simp only [World.size_alloc, World.size_setCell, World.size_drew, World.heap_drewN]; first | done | omega)))) | (with_reducible refine below_drewN ?_ _) | (with_reducible refine Below.drew ?_) | ((with_reducible refine Below.trans ?_ (Below.mono (by assumption) ?_)); rotate_left; (focus (first | omega | (simp only [World.size_alloc, World.size_setCell, World.size_drew, World.heap_drewN]; first | done | omega)))))))) ((go_at_call 48; refine (rg_any _ _ _).mono ?_; rintro e' w6 ⟨rfl, hb6⟩; obtain ⟨_hr1, _hr2⟩ := below_reads hb6; have _hz := Below.size hb6; (try simp only [World.size_alloc, World.size_setCell, World.size_drew, World.heap_drewN] at _hz)))
            all_goals exact ⟨_, _, _, _, _, _, _, _, _, _, rfl, by (refine Box.of_f ?_; repeat (first | ((with_reducible refine BoxF.done (by with_reducible assumption) ?_); rfl) | ((with_reducible refine BoxF.new ?_ ?_); (focus (first | omega | (simp only [World.size_alloc, World.size_setCell, World.size_drew, World.heap_drewN]; first | done | omega))); rfl) | ((with_reducible refine BoxF.alloc ?_ ?_); (focus (first | omega | (simp only [World.size_alloc, World.size_setCell, World.size_drew, World.heap_drewN]; first | done | omega)))) | (with_reducible refine BoxF.set ?_) | ((with_reducible refine BoxF.far ?_ ?_); ((try simp only []); omega)) | (with_reducible refine BoxF.drewN ?_) | (with_reducible refine BoxF.drew ?_) | ((with_reducible refine BoxF.below (by with_reducible assumption) ?_ ?_); (focus (first | omega | (simp only [World.size_alloc, World.size_setCell, World.size_drew, World.heap_drewN]; first | done | omega)))))), by first | omega | (have := hb6.size; simp only [World.size_alloc, World.size_drew] at this ⊢; omega), (by repeat (first | (with_reducible assumption) | (with_reducible exact Below.refl _ _) | ((with_reducible refine Below.alloc ?_ ?_ _); rotate_left; (focus (first | omega | (simp only [World.size_alloc, World.size_setCell, World.size_drew, World.heap_drewN]; first | done | omega)))) | ((with_reducible refine Below.setCell ?_ ?_ _); rotate_left; (focus (first | omega | (simp only [World.size_alloc, World.size_setCell, World.size_drew, World.heap_drewN]; first | done | omega)))) | (with_reducible refine below_drewN ?_ _) | (with_reducible refine Below.drew ?_) | ((with_reducible refine Below.trans ?_ (Below.mono (by assumption) ?_)); rotate_left; (focus (first | omega | (simp only [World.size_alloc, World.size_setCell, World.size_drew, World.heap_drewN]; first | done | omega))))))⟩
          rintro a' w7 ⟨tm, x0, x1, x2, x3, x4, x5, x6, x7, x8, rfl, BM, hgm, d7⟩
          simp only [Act.put, List.setIfInBounds_toArray, List.set_cons_zero, List.set_cons_succ]
          have HM := box_cells2 BM
          have lM := BM.lt
          have D7 : Below W3.heap.size W3 w7 := hb.trans (d7.mono hb.size)
          have R8 : Below W1.heap.size W1 w7 := R7.trans (D7.mono R7.size)
          have S8 : Below w4.heap.size w4 w7 := S7.trans (D7.mono S7.size)
          clear BM c1 d7
          obtain ⟨b0, b1⟩ := H4.out w7 R8
          obtain ⟨b2, b3⟩ := H9.out w7 R8
          obtain ⟨b4, b5⟩ := HM.out w7 (Below.refl _ _)
          obtain ⟨hag, hany⟩ := reach_agr OK.out (e := e) (by rw [HLO.out]; exact q1) (by rw [HLO.out]; exact q2)
          have hlast := reach_last OK.out (e := e) (by rw [HLO.out]; exact q1) (by rw [HLO.out]; exact q2)
          have HAG := Lib.hid hag
          have HANY := Lib.hid hany
          have HLAST := Lib.hid hlast
          clear hag hany hlast
          go_wp2_with fail
          refine Calls.mono (history_own (HI1.out w7 R8) HAG.out) ?_
          rintro e' w8 ⟨_, rfl, ⟨vx, rfl, px⟩, d8⟩
          obtain ⟨Ax, cx, hvx, kx1, kx2, kx3⟩ := ints_at px
          rw [histVals_len] at hvx kx1 kx3
          obtain ⟨bx, ox, rfl, hbx, kx4⟩ := kx3 (by omega)
          subst hvx
          have KX := Lib.hid kx4
          have PX := Lib.hid px
          have R9 : Below W1.heap.size W1 w8 := R8.trans (d8.mono R8.size)
          have S9 : Below w4.heap.size w4 w8 := S8.trans (d8.mono S8.size)
          have D9 : Below W3.heap.size W3 w8 := D7.trans (d8.mono D7.size)
          have M9 : Below w7.heap.size w7 w8 := d8
          clear kx4 kx3 px d8 b0 b1 b2 b3 b4 b5
          obtain ⟨b0, b1⟩ := H4.out w8 R9
          obtain ⟨b2, b3⟩ := H9.out w8 R9
          obtain ⟨b4, b5⟩ := HM.out w8 M9
          go_wp2_with fail
          refine Calls.mono (had_own (HI1.out w8 R9) HAG.out) ?_
          rintro e' w9 ⟨_, rfl, ⟨vd, rfl, pd⟩, d9⟩
          obtain ⟨Ad, cd, hvd, kd1, kd2, kd3⟩ := rgs_at pd
          rw [hadsOf_len] at hvd kd1 kd3
          obtain ⟨bd, od, rfl, hbd, kd4⟩ := kd3 (by omega)
          subst hvd
          have kd5 : ∀ V, Below w9.heap.size w9 V → ∀ i, i ≤ x.steps.length → V.cell? ⟨bd, od + i * 2, none⟩ = some (.int .i64 (hadE x m ways e e i).1) ∧ V.cell? ⟨bd, od + i * 2 + 1, none⟩ = some (.int .i64 (hadE x m ways e e i).2) := fun V hV i hi => kd4 V hV i _ (hadsOf_at hi)
          have KD := Lib.hid kd5
          have R10 : Below W1.heap.size W1 w9 := R9.trans (d9.mono R9.size)
          have S10 : Below w4.heap.size w4 w9 := S9.trans (d9.mono S9.size)
          have D10 : Below W3.heap.size W3 w9 := D9.trans (d9.mono D9.size)
          have M10 : Below w7.heap.size w7 w9 := M9.trans (d9.mono M9.size)
          have X10 : Below w8.heap.size w8 w9 := d9
          clear kd4 kd5 kd3 pd d9 b0 b1 b2 b3 b4 b5
          obtain ⟨b0, b1⟩ := H4.out w9 R10
          obtain ⟨b2, b3⟩ := H9.out w9 R10
          obtain ⟨b4, b5⟩ := HM.out w9 M10
          obtain ⟨b6, b7⟩ := KD.out w9 (Below.refl _ _) x.steps.length (Nat.le_refl _)
          rw [HLAST.out] at b6 b7
          simp only at b6 b7
          have z10 := R10.size
          have z11 := M10.size
          have z12 := X10.size
          go_wp2_with fail
          have i1 : w.heap.size < w9.heap.size := by omega
          have i2 : t9 < w9.heap.size := by omega
          have i3 : tm < w9.heap.size := by omega
          refine wp_region_later (by kernel_rfl) (by kernel_rfl) ?_; have _hl := later_reads (w9); (repeat (go_big_quiet_step ((first | (go_at_call 26; exact LaterW.callsB (fun W hW => check_val (HI1.out W (R10.trans (hW.mono R10.size))) (Fact.keep _ _ _ _ (X10.trans (hW.mono X10.size)) PX.out) (histVals_ok OK.out HANY.out).1)) | (go_at_call 31; exact LaterW.callsB (fun W hW => agrees_own (HI1.out W (R10.trans (hW.mono R10.size))) HAG.out (Fact.keep _ _ _ _ (X10.trans (hW.mono X10.size)) PX.out))))))); refine wpQuiet_nil ?_; intro v10 hw'; have hb_v10 := later_below hw'; clear hw' _hl
          have R11 : Below W1.heap.size W1 v10 := R10.trans (hb_v10.mono R10.size)
          have S11 : Below w4.heap.size w4 v10 := S10.trans (hb_v10.mono S10.size)
          have D11 : Below W3.heap.size W3 v10 := D10.trans (hb_v10.mono D10.size)
          have X11 : Below w8.heap.size w8 v10 := X10.trans (hb_v10.mono X10.size)
          have E11 : Below w9.heap.size w9 v10 := hb_v10
          clear b0 b1 b2 b3 b4 b5 b6 b7 hb_v10
          have z13 := S11.size
          have z14 := X11.size
          have z15 := E11.size
          go_wp2_with fail
          clear hb yw
          obtain ⟨wq, rfl⟩ : ∃ wq : World, wq = wr := ⟨_, rfl⟩
          go_loopw [22] (fun i wr => ∃ j : Nat, j ≤ x.steps.length + 1 ∧ i = .int .i64 j ∧ Below v10.heap.size v10 wr) (fun i _ => x.steps.length + 1 - (intOf i).toNat)
          case atStart => exact ⟨0, by omega, rfl, Below.refl _ _⟩
          case round =>
            obtain ⟨j, hj, rfl, hb⟩ := hrel
            have yw := hb.size
            by_cases hlj : j ≤ x.steps.length
            · have g1 := KX.out wr (X11.trans (hb.mono X11.size)) j (by omega)
              obtain ⟨g2, g3⟩ := KD.out wr (E11.trans (hb.mono E11.size)) j hlj
              obtain ⟨g4, g5⟩ := KL.out wr (S11.trans (hb.mono S11.size)) j hlj
              have hri := reach_in OK.out HANY.out hlj
              have hvl := hadE_val OK.out HANY.out hlj
              obtain ⟨dl, dh, hdd⟩ : ∃ a b, hadE x m ways e e j = (a, b) := ⟨_, _, rfl⟩
              obtain ⟨rl, rh, hrr⟩ : ∃ a b, rngN x m ways j = (a, b) := ⟨_, _, rfl⟩
              rw [hdd] at g2 g3 hri hvl
              rw [hrr] at g4 g5 hvl
              simp only at g2 g3 g4 g5 hri hvl
              generalize intAt (histVals x m ways e e) j = hh at g1 hri
              have P1 : Hid (inB hh dl dh = true) := Lib.hid (by simp only [inB, decide_eq_true_eq]; exact hri)
              have t1 : decide (dl < rl) = false := decide_eq_false (by omega)
              have t2 : decide (rh < dh) = false := decide_eq_false (by omega)
              have p1 : bx < wr.heap.size := by omega
              have p2 : bd < wr.heap.size := by omega
              have p3 : bl < wr.heap.size := by omega
              have s1 : (j : Int) < (x.steps.length : Int) + 1 := by omega
              clear hdd hrr hri hvl
              go_wp2_with fail
              refine wp_region_later (by kernel_rfl) (by kernel_rfl) ?_; have _hl := later_reads (wr); (repeat (go_big_quiet_step ((go_at_call 46; have q := refIn_any hh dl dh; rw [P1.out] at q; exact LaterW.calls (q _))))); refine wpQuiet_nil ?_; intro v11 hw'; have hb_v11 := later_below hw'; clear hw' _hl
              go_wp2_with fail
              go_roundw
              case rel => exact ⟨j + 1, by omega, by go_num, hb.trans (hb_v11.mono hb.size)⟩
              case measure => simp [intOf]; omega
            · obtain rfl : j = x.steps.length + 1 := by omega
              go_wp2_with fail
              go_roundw
              case rel => exact ⟨k + 1, by omega, by go_num, D11.trans (hb.mono D11.size)⟩
              case measure => simp [intOf]; omega
        · obtain rfl : k = 3 := by omega
          go_wp2_with (go_at_call 16; refine (works_any _).mono ?_; rintro e' w12 ⟨rfl, hb12⟩)
          go_ret
          exact ⟨rfl, hW1.trans ((R7.trans (hb.mono R7.size)).mono hW1.size |>.trans (hb12.mono (by have := hW1.size; have := R7.size; have := hb.size; omega)))⟩
end Go.Proofs.Ytigpefjeelgfdaa

/-
  A region that draws its order, told by one invariant: which operations have been met, what they left, and the world. Stores too. No program is named here.
-/
namespace Go.Proofs.Ytigpefjeelgfdaa
open Go.RowKit
section
variable {P : Program} {ops : Array Oper} {Q : Exit → Act → World → Prop}

/-- Operation i has been met. -/
def met (L : Nat → Bool) (i : Nat) : Nat → Bool := fun j => if j = i then true else L j
/-- One duty an operation. -/
def StepsI (P : Program) (ops : Array Oper) (Q : Exit → Act → World → Prop) (F : (Nat → Value) → Act) (I : (Nat → Bool) → (Nat → Value) → World → Prop) : Nat → List Oper → Prop
  | _, [] => True
  | i, o :: l => (∀ (L : Nat → Bool) (x : Nat → Value) (V : World), I L x V → L i = false → (∀ k, (o.after.toList.any fun e => e.on == k && Region.binds .any e) = true → L k = true) → ∀ K : Act → World → Prop,
      Shut (∀ v w', I (met L i) (upd x i v) w' → K ((F x).put o.dst v) w') →
        if Region.wanted o (yielded ops (F x).tmps) = true then Oper.wp P o (F x) V K Q else K ((F x).put o.dst undef) V) ∧ StepsI P ops Q F I (i + 1) l
theorem StepsI.at_ {F : (Nat → Value) → Act} {I : (Nat → Bool) → (Nat → Value) → World → Prop} : ∀ {l : List Oper} {i k : Nat} {o : Oper}, StepsI P ops Q F I i l → l[k]? = some o →
    ∀ (L : Nat → Bool) (x : Nat → Value) (V : World), I L x V → L (i + k) = false → (∀ k, (o.after.toList.any fun e => e.on == k && Region.binds .any e) = true → L k = true) → ∀ K : Act → World → Prop,
      Shut (∀ v w', I (met L (i + k)) (upd x (i + k) v) w' → K ((F x).put o.dst v) w') →
        if Region.wanted o (yielded ops (F x).tmps) = true then Oper.wp P o (F x) V K Q else K ((F x).put o.dst undef) V
  | [], _, _, _, _, h => by simp at h
  | o :: l, i, 0, _, hs, h => by
    simp only [List.getElem?_cons_zero, Option.some.injEq] at h
    subst h
    exact hs.1
  | o :: l, i, k + 1, _, hs, h => by
    simp only [List.getElem?_cons_succ] at h
    have := StepsI.at_ hs.2 h
    rwa [show i + 1 + k = i + (k + 1) by omega] at this
theorem StepsI.cons {F : (Nat → Value) → Act} {I : (Nat → Bool) → (Nat → Value) → World → Prop} {i : Nat} {o : Oper} {l : List Oper}
    (h : ∀ (L : Nat → Bool) (x : Nat → Value) (V : World), I L x V → L i = false → (∀ k, (o.after.toList.any fun e => e.on == k && Region.binds .any e) = true → L k = true) → ∀ K : Act → World → Prop,
      Shut (∀ v w', I (met L i) (upd x i v) w' → K ((F x).put o.dst v) w') →
        if Region.wanted o (yielded ops (F x).tmps) = true then Oper.wp P o (F x) V K Q else K ((F x).put o.dst undef) V)
    (hs : StepsI P ops Q F I (i + 1) l) : StepsI P ops Q F I i (o :: l) := ⟨h, hs⟩
theorem StepsI.nil {F : (Nat → Value) → Act} {I : (Nat → Bool) → (Nat → Value) → World → Prop} {i : Nat} : StepsI P ops Q F I i [] := trivial

theorem wpAny_inv {F : (Nat → Value) → Act} {I : (Nat → Bool) → (Nat → Value) → World → Prop} {a0 : Act} (hB : backB ops = true) (hD : apartB (ops.toList.map (·.dst)) = true)
    (hF : ∀ x, putAll (ops.toList.map (·.dst)) 0 x a0 = F x) (hS : StepsI P ops Q F I 0 ops.toList)
    (hQ : ∀ (L : Nat → Bool) (x : Nat → Value) (V : World), I L x V → (∀ i, i < ops.size → L i = true) → Q .normal (F x) V) :
    ∀ (fuel : Nat) (listed : Array Bool) (L : Nat → Bool) (x : Nat → Value) (w : World), listed.size = ops.size → leftOf ops.size listed ≤ fuel →
      (∀ i, i < ops.size → L i = listed.getD i true) → I L x w → wpAny P .any ops Q fuel listed (F x) w := by
  have fin : ∀ (listed : Array Bool) (L : Nat → Bool) (x : Nat → Value) (w : World), listed.size = ops.size →
      (∀ i, i < ops.size → L i = listed.getD i true) → I L x w → Region.ready .any ops listed = [] → Q .normal (F x) w :=
    fun listed L x w hs hL hI hr => hQ L x w hI fun i hi => (hL i hi).trans (all_listed hs hB hr i hi)
  intro fuel
  induction fuel with
  | zero =>
    intro listed L x w hs hl hL hI
    have hr : Region.ready .any ops listed = [] := by
      rw [List.eq_nil_iff_forall_not_mem]
      intro i hi
      have h1 := (mem_ready.1 hi).1
      have h2 : i ∈ (List.range ops.size).filter fun j => !listed.getD j true := by
        rw [List.mem_filter]
        refine ⟨List.mem_range.2 ?_, by rw [h1]; rfl⟩
        obtain ⟨o, ho, _⟩ := (mem_ready.1 hi).2
        exact (Array.getElem?_eq_some_iff.1 ho).1
      unfold leftOf at hl
      rw [List.length_eq_zero_iff.1 (Nat.le_zero.1 hl)] at h2
      cases h2
    exact ⟨hr, fin listed L x w hs hL hI hr⟩
  | succ fuel ih =>
    intro listed L x w hs hl hL hI
    refine ⟨fun hr => fin listed L x w hs hL hI hr, fun i hi => ?_⟩
    obtain ⟨hun, o, ho, hdep⟩ := mem_ready.1 hi
    have hin : i < ops.size := (Array.getElem?_eq_some_iff.1 ho).1
    refine wpOp_of ho fun K' hK' => ?_
    have hl' : ops.toList[i]? = some o := by rw [Array.getElem?_toList]; exact ho
    have hafter : ∀ k, (o.after.toList.any fun e => e.on == k && Region.binds .any e) = true → L k = true := by
      intro k hk
      rw [List.any_eq_true] at hk
      obtain ⟨e, he, hk⟩ := hk
      rw [Bool.and_eq_true, beq_iff_eq] at hk
      obtain ⟨rfl, hb⟩ := hk
      have h1 := hdep e (by simpa using he) hb
      have hlt : e.on < ops.size := by
        have hb1 := List.all_eq_true.1 hB i (List.mem_range.2 hin)
        rw [ho] at hb1
        simp only [Option.map_some, Option.getD_some] at hb1
        have hb2 := Array.all_eq_true.1 hb1
        obtain ⟨k, hk, rfl⟩ := Array.getElem_of_mem (by simpa using he : e ∈ o.after)
        have hb3 := hb2 k hk
        simp only [hb, Bool.not_true, Bool.false_or, decide_eq_true_eq] at hb3
        omega
      rw [hL _ hlt]
      rcases Nat.lt_or_ge e.on listed.size with h2 | h2
      · simp [h2] at h1 ⊢; exact h1
      · simp [Array.getElem?_eq_none h2] at h1
    have := StepsI.at_ hS hl' L x w hI (by rw [Nat.zero_add, hL i hin]; exact hun) hafter K' ?_
    · exact this
    · intro v w' hv
      refine hK' _ _ ?_
      have hd : (ops.toList.map (·.dst))[i]? = some o.dst := by rw [List.getElem?_map, hl']; rfl
      have hput : (F x).put o.dst v = F (upd x i v) := by
        rw [← hF, ← hF, putAll_put _ 0 i x a0 o.dst v hD hd, Nat.zero_add]
      rw [hput]
      rw [Nat.zero_add] at hv
      refine ih _ (met L i) _ _ (by simpa using hs) (leftOf_set hs hun fuel hl) (fun j hj => ?_) hv
      unfold met
      by_cases e : j = i
      · subst e
        rw [if_pos rfl]
        simp [hs, hin]
      · rw [if_neg e, getD_set_ne true (Ne.symm e)]
        exact hL j hj

theorem wp_region_inv {id : Nat} {l : List Oper} {F : (Nat → Value) → Act} {a : Act} {w : World} (I : (Nat → Bool) → (Nat → Value) → World → Prop) (hm : P.follows .mixedOrders = true) (hB : backB l.toArray = true) (hD : apartB (l.map (·.dst)) = true)
    (hF : ∀ x, putAll (l.map (·.dst)) 0 x a = F x) (h0 : ∀ x, I (fun _ => false) x w.drew) (hS : StepsI P l.toArray Q F I 0 l)
    (hQ : ∀ (L : Nat → Bool) (x : Nat → Value) (V : World), I L x V → (∀ i, i < l.length → L i = true) → Q .normal (F x) V) : (Code.region id l.toArray true).wp P Q a w := by
  refine wp_region_any hm ?_
  have hx := putAll_own (fun j => match (l.map (·.dst))[j]? with | some (some d) => a.tmps.getD d undef | _ => undef) a (l.map (·.dst)) 0 (fun k d hk => by rw [Nat.zero_add]; simp only [hk])
  have h := wpAny_inv (P := P) (ops := l.toArray) (Q := Q) (F := F) (I := I) (a0 := a) hB (by simpa using hD) (by simpa using hF) (by simpa using hS) (by simpa using hQ)
    l.toArray.size (Array.replicate l.toArray.size false) (fun _ => false) (fun j => match (l.map (·.dst))[j]? with | some (some d) => a.tmps.getD d undef | _ => undef) { w with drawn := w.drawn + 1 }
    (by simp) (by unfold leftOf; exact Nat.le_trans (List.length_filter_le _ _) (by simp)) (fun i hi => by
      have : i < l.length := by simpa using hi
      simp [this]) (h0 _)
  rw [← hF, hx] at h
  exact h
end
end Go.Proofs.Ytigpefjeelgfdaa

/-
  HeatHarder: two copies of the bars are made and stored, in whatever order: what stands in between.
-/
namespace Go.Proofs.Ytigpefjeelgfdaa
open Go.RowKit

theorem flatMap_rgs_len (l : List Rg) : (l.flatMap rgV).length = l.length * 2 := by
  induction l with
  | nil => rfl
  | cons a l ih => simp [rgV, ih]; omega
theorem rgs_cells {w : World} {b off : Nat} {l : List Rg} (hx : ∀ i r, l[i]? = some r → RgAt w b (off + i * 2) r) : ∀ j u, (l.flatMap rgV)[j]? = some u → w.cell? ((⟨b, off, none⟩ : Addr).add j) = some u := by
  intro j u hj
  have hlt : j < l.length * 2 := by
    rw [← flatMap_rgs_len]
    rcases Nat.lt_or_ge j (l.flatMap rgV).length with g | g
    · exact g
    · rw [List.getElem?_eq_none g] at hj; cases hj
  obtain ⟨r, hr⟩ : ∃ r, l[j / 2]? = some r := ⟨_, List.getElem?_eq_getElem (by omega)⟩
  have h1 := flatMap_get rgV 2 (fun _ => rfl) l (j / 2) (j % 2) r hr (by omega)
  rw [show j / 2 * 2 + j % 2 = j by omega, hj] at h1
  obtain ⟨g1, g2⟩ := hx _ r hr
  rw [Addr.add_lit]
  rcases Nat.mod_two_eq_zero_or_one j with e | e
  · rw [e] at h1
    rw [show off + j = off + j / 2 * 2 by omega, g1]
    exact h1.symm
  · rw [e] at h1
    rw [show off + j = off + j / 2 * 2 + 1 by omega, g2]
    exact h1.symm
theorem rgs_one (l : List Rg) : ∀ u ∈ l.flatMap rgV, u.oneCell' = true := by
  intro u hu
  obtain ⟨r, _, h⟩ := List.mem_flatMap.1 hu
  simp only [rgV, List.mem_cons, List.not_mem_nil, or_false] at h
  rcases h with rfl | rfl <;> rfl
theorem bars_few {x : Works} (h : worksErr x = 0) : 0 < x.bars.length ∧ x.bars.length ≤ 6 := by
  have h1 := (worksOk_iff.1 h).1
  simp only [manyOk, Bool.and_eq_true, Bool.not_eq_true', decide_eq_false_iff_not] at h1
  omega

/-- A copy of the bars in a block of the call's own. -/
theorem own_bars {w : World} {base : Nat} {v : Value} {l : List Rg} (h : w.ownsRow base 33 2 v l.length (l.flatMap rgV)) (hl : 0 < l.length) : ∃ g c, v = .slice (some ⟨g, 0, none⟩) l.length c ∧ OwnR w base g c (rgAt l) l.length := by
  rcases h.2 with ⟨_, h2⟩ | ⟨g, cap, cur, hv, hb, hg, hnc, hcm, hcs, htake⟩
  · omega
  · have key : ∀ j, j < l.length → ∀ k, k < 2 → cur[j * 2 + k]? = (rgV (rgAt l j))[k]? := fun j hj k hk => by
      have e : l[j]? = some (rgAt l j) := by
        rw [List.getElem?_eq_getElem hj]
        simp [rgAt, List.getD_eq_getElem?_getD, hj]
      have h1 := flatMap_get rgV 2 (fun _ => rfl) l j k (rgAt l j) e hk
      rw [← htake, List.getElem?_take] at h1
      split at h1
      · rw [← h1]; simp
      · exfalso
        have : (rgV (rgAt l j))[k]? ≠ none := by
          simp [rgV]; omega
        exact this h1.symm
    refine ⟨g, cap, hv, hb, (Array.getElem?_eq_some_iff.1 hg).1, hnc, by unfold maxLen at hcm; omega, fun j hj => ?_, fun j hj => ?_, fun k => by simp [World.frozen?, hg]⟩
    · rw [cell_of_row w g (j * 2) cur 33 (0, 0) hg]
      exact key j hj 0 (by omega)
    · rw [cell_of_row w g (j * 2 + 1) cur 33 (0, 0) hg]
      exact key j hj 1 (by omega)
theorem map_range_set (l : List Rg) (m : Nat) (r : Rg) : (List.range l.length).map (fun j => if j = m then r else rgAt l j) = l.set m r := by
  apply List.ext_getElem?
  intro i
  rw [List.getElem?_map, List.getElem?_set]
  rcases Nat.lt_or_ge i l.length with h | h
  · rw [List.getElem?_range h]
    by_cases e : i = m
    · subst e; simp [h]
    · rw [if_neg (Ne.symm e)]
      simp [rgAt, List.getD_eq_getElem?_getD, h, e]
  · rw [List.getElem?_eq_none (by simpa using h)]
    by_cases e : m = i
    · subst e; simp; omega
    · rw [if_neg e, List.getElem?_eq_none h]; rfl
/-- What the law lays of a works: the same, the bar another one. -/
theorem In.setBar {w w' : World} {B base g c m : Nat} {Ab As Ar : Option Addr} {cb cs cr : Nat} {x : Works} {ways : List Int} {r : Rg} (h : In w B Ab As Ar cb cs cr x ways) (hb : Below B w w')
    (ho : OwnR w' base g c (fun j => if j = m then r else rgAt x.bars j) x.bars.length) : In w' w'.heap.size (some ⟨g, 0, none⟩) As Ar c cs cr (setBar x m r) ways := by
  have h1 := h.on hb (Nat.le_refl _)
  have e := map_range_set x.bars m r
  obtain ⟨A, c', e1, h2, h3, h4⟩ := ho.rgs
  rw [e] at e1 h2 h4
  rw [List.length_set] at e1 h2
  injection e1 with e2 e3 e4
  subst e2
  subst e4
  have h5 : In w' w'.heap.size Ab As Ar cb cs cr x ways := h1.drop.with_ (Below.refl _ _) (SLa.keep h1.rways h1.le fun _ _ _ _ hx => hx) h1.cr1 h1.cr2
  exact ⟨h4, h5.steps, h5.rways, by rw [setBar_len]; exact h2, h3, h1.cs1, h1.cs2, h1.cr1, h1.cr2, Nat.le_refl _⟩

theorem wrap_mid {n : Int} (h1 : -1000000 ≤ n) (h2 : n ≤ 1000000) : wrap64 n = n := by unfold wrap64; omega
theorem goMin {a : Int} : (if a < 1000 then a else 1000) = min 1000 a := by split <;> omega
theorem goMax {a b : Int} : (if b < a then a - b else 0) = max 0 (a - b) := by split <;> omega

theorem ranges_set {g c : Nat} {As Ar : Option Addr} {cs cr : Nat} {x : Works} {m : Nat} {r : Rg} {ways : List Int} {w : World} (h : In w w.heap.size (some ⟨g, 0, none⟩) As Ar c cs cr (setBar x m r) ways) (ok : RecOk (setBar x m r) m ways) :
    CallsF 23 #[.agg #[.slice (some ⟨g, 0, none⟩) x.bars.length c, .slice As x.steps.length cs], .agg #[.int .i64 m, .slice Ar ways.length cr]] w (Fact.first (Fact.rgs (rngsOf (setBar x m r) m ways)) (.int .i64 0)) := by
  have h1 := ranges_own h ok
  rwa [setBar_len] at h1
theorem rngsOf_set_len (x : Works) (m : Nat) (r : Rg) (ways : List Int) : (rngsOf (setBar x m r) m ways).length = x.steps.length + 1 := by simp [rngsOf, setBar]
theorem OwnR.same {w : World} {base g c m n : Nat} {l : List Rg} {a b : Int} {r : Rg} (h : OwnR w base g c (fun j => if j = m then (a, b) else rgAt l j) n) (e : (a, b) = r) : OwnR w base g c (fun j => if j = m then r else rgAt l j) n := by
  subst e
  exact h

structure I5 (W1 : World) (N t4 g10 g11 : Nat) (s sS : Value) (n : Nat) (xs : List Value) (L : Nat → Bool) (x : Nat → Value) (V : World) : Prop where
  b1 : Below W1.heap.size W1 V
  b2 : N ≤ V.heap.size
  k0 : L 0 = true → ∃ g, x 0 = .slice (some ⟨g, 0, none⟩) 0 0
  k1 : L 1 = true → x 1 = .pointer (some ⟨t4, 0, none⟩)
  k2 : L 2 = true → x 2 = s
  k3 : L 3 = true → V.ownsRow N 33 2 (x 3) n xs
  k4 : L 4 = true → ∃ g, x 4 = .slice (some ⟨g, 0, none⟩) 0 0
  k5 : L 5 = true → x 5 = .pointer (some ⟨t4, 0, none⟩)
  k6 : L 6 = true → x 6 = s
  k7 : L 7 = true → V.ownsRow N 33 2 (x 7) n xs
  k8 : L 8 = true → x 8 = .pointer (some ⟨g10, 0, none⟩)
  kA : L 10 = true → x 10 = .pointer (some ⟨g11, 0, none⟩)
  kx : L 3 = true → L 7 = true → (x 3).ownBlock ≠ (x 7).ownBlock
  bA : ∃ u, Box V g10 25 #[u, sS] ∧ (L 9 = true → L 3 = true ∧ u = x 3)
  bB : ∃ u, Box V g11 25 #[u, sS] ∧ (L 11 = true → L 7 = true ∧ u = x 7)
section
variable {W1 : World} {N t4 g10 g11 : Nat} {s sS : Value} {n : Nat} {xs : List Value} {L : Nat → Bool} {x : Nat → Value} {V V' : World} {v : Value}
theorem I5.later (h : I5 W1 N t4 g10 g11 s sS n xs L x V) (hb : Below V.heap.size V V') : I5 W1 N t4 g10 g11 s sS n xs L x V' := by
  obtain ⟨b1, b2, k0, k1, k2, k3, k4, k5, k6, k7, k8, kA, kx, ⟨u, c1, c2⟩, ⟨u', d1, d2⟩⟩ := h
  exact ⟨b1.trans (hb.mono b1.size), Nat.le_trans b2 hb.size, k0, k1, k2, fun e => own_later (k3 e) hb, k4, k5, k6, fun e => own_later (k7 e) hb, k8, kA, kx, ⟨u, Box.below c1 hb c1.lt, c2⟩, ⟨u', Box.below d1 hb d1.lt, d2⟩⟩
theorem I5.set0 (h : I5 W1 N t4 g10 g11 s sS n xs L x V) (g : Nat) : I5 W1 N t4 g10 g11 s sS n xs (met L 0) (upd x 0 (.slice (some ⟨g, 0, none⟩) 0 0)) V := by
  obtain ⟨b1, b2, k0, k1, k2, k3, k4, k5, k6, k7, k8, kA, kx, cA, cB⟩ := h
  exact ⟨b1, b2, fun _ => ⟨g, rfl⟩, k1, k2, k3, k4, k5, k6, k7, k8, kA, kx, cA, cB⟩
theorem I5.set1 (h : I5 W1 N t4 g10 g11 s sS n xs L x V) : I5 W1 N t4 g10 g11 s sS n xs (met L 1) (upd x 1 (.pointer (some ⟨t4, 0, none⟩))) V := by
  obtain ⟨b1, b2, k0, k1, k2, k3, k4, k5, k6, k7, k8, kA, kx, cA, cB⟩ := h
  exact ⟨b1, b2, k0, fun _ => rfl, k2, k3, k4, k5, k6, k7, k8, kA, kx, cA, cB⟩
theorem I5.set2 (h : I5 W1 N t4 g10 g11 s sS n xs L x V) : I5 W1 N t4 g10 g11 s sS n xs (met L 2) (upd x 2 s) V := by
  obtain ⟨b1, b2, k0, k1, k2, k3, k4, k5, k6, k7, k8, kA, kx, cA, cB⟩ := h
  exact ⟨b1, b2, k0, k1, fun _ => rfl, k3, k4, k5, k6, k7, k8, kA, kx, cA, cB⟩
theorem I5.set4 (h : I5 W1 N t4 g10 g11 s sS n xs L x V) (g : Nat) : I5 W1 N t4 g10 g11 s sS n xs (met L 4) (upd x 4 (.slice (some ⟨g, 0, none⟩) 0 0)) V := by
  obtain ⟨b1, b2, k0, k1, k2, k3, k4, k5, k6, k7, k8, kA, kx, cA, cB⟩ := h
  exact ⟨b1, b2, k0, k1, k2, k3, fun _ => ⟨g, rfl⟩, k5, k6, k7, k8, kA, kx, cA, cB⟩
theorem I5.set5 (h : I5 W1 N t4 g10 g11 s sS n xs L x V) : I5 W1 N t4 g10 g11 s sS n xs (met L 5) (upd x 5 (.pointer (some ⟨t4, 0, none⟩))) V := by
  obtain ⟨b1, b2, k0, k1, k2, k3, k4, k5, k6, k7, k8, kA, kx, cA, cB⟩ := h
  exact ⟨b1, b2, k0, k1, k2, k3, k4, fun _ => rfl, k6, k7, k8, kA, kx, cA, cB⟩
theorem I5.set6 (h : I5 W1 N t4 g10 g11 s sS n xs L x V) : I5 W1 N t4 g10 g11 s sS n xs (met L 6) (upd x 6 s) V := by
  obtain ⟨b1, b2, k0, k1, k2, k3, k4, k5, k6, k7, k8, kA, kx, cA, cB⟩ := h
  exact ⟨b1, b2, k0, k1, k2, k3, k4, k5, fun _ => rfl, k7, k8, kA, kx, cA, cB⟩
theorem I5.set8 (h : I5 W1 N t4 g10 g11 s sS n xs L x V) : I5 W1 N t4 g10 g11 s sS n xs (met L 8) (upd x 8 (.pointer (some ⟨g10, 0, none⟩))) V := by
  obtain ⟨b1, b2, k0, k1, k2, k3, k4, k5, k6, k7, k8, kA, kx, cA, cB⟩ := h
  exact ⟨b1, b2, k0, k1, k2, k3, k4, k5, k6, k7, fun _ => rfl, kA, kx, cA, cB⟩
theorem I5.setA (h : I5 W1 N t4 g10 g11 s sS n xs L x V) : I5 W1 N t4 g10 g11 s sS n xs (met L 10) (upd x 10 (.pointer (some ⟨g11, 0, none⟩))) V := by
  obtain ⟨b1, b2, k0, k1, k2, k3, k4, k5, k6, k7, k8, kA, kx, cA, cB⟩ := h
  exact ⟨b1, b2, k0, k1, k2, k3, k4, k5, k6, k7, k8, fun _ => rfl, kx, cA, cB⟩
/-- The first copy is made. -/
theorem I5.set3 (h : I5 W1 N t4 g10 g11 s sS n xs L x V) (hL : L 3 = false) (hn : 0 < n) (ho : V'.ownsRow V.heap.size 33 2 v n xs) (hg : V.grownBy V' none) : I5 W1 N t4 g10 g11 s sS n xs (met L 3) (upd x 3 v) V' := by
  have hb : Below V.heap.size V V' := gb_to_below hg (Nat.le_refl _) fun g e => by cases e
  have b2 := h.b2
  have k7' := h.k7
  obtain ⟨b1, b2', k0, k1, k2, k3, k4, k5, k6, k7, k8, kA, kx, ⟨u, c1, c2⟩, cB⟩ := h.later hb
  refine ⟨b1, b2', k0, k1, k2, fun _ => ho.mono b2, k4, k5, k6, k7, k8, kA, fun _ e7 => ?_, ⟨u, c1, fun e => absurd (c2 e).1 (by simp [hL])⟩, cB⟩
  obtain ⟨g, c, e1, e2, e3⟩ := ho.form hn
  obtain ⟨g', c', e1', e2', e3'⟩ := (k7' e7).form hn
  show v.ownBlock ≠ (x 7).ownBlock
  rw [e1, e1']
  simp only [Value.ownBlock, ne_eq, Option.some.injEq]
  omega
theorem I5.set7 (h : I5 W1 N t4 g10 g11 s sS n xs L x V) (hL : L 7 = false) (hn : 0 < n) (ho : V'.ownsRow V.heap.size 33 2 v n xs) (hg : V.grownBy V' none) : I5 W1 N t4 g10 g11 s sS n xs (met L 7) (upd x 7 v) V' := by
  have hb : Below V.heap.size V V' := gb_to_below hg (Nat.le_refl _) fun g e => by cases e
  have b2 := h.b2
  have k3' := h.k3
  obtain ⟨b1, b2', k0, k1, k2, k3, k4, k5, k6, k7, k8, kA, kx, cA, ⟨u, c1, c2⟩⟩ := h.later hb
  refine ⟨b1, b2', k0, k1, k2, k3, k4, k5, k6, fun _ => ho.mono b2, k8, kA, fun e3 _ => ?_, cA, ⟨u, c1, fun e => absurd (c2 e).1 (by simp [hL])⟩⟩
  obtain ⟨g, c, e1, e2, e4⟩ := ho.form hn
  obtain ⟨g', c', e1', e2', e4'⟩ := (k3' e3).form hn
  show (x 3).ownBlock ≠ v.ownBlock
  rw [e1, e1']
  simp only [Value.ownBlock, ne_eq, Option.some.injEq]
  omega
/-- It is stored. -/
theorem I5.set9 (h : I5 W1 N t4 g10 g11 s sS n xs L x V) (h3 : L 3 = true) (hne : g10 ≠ g11) (hN : g10 < N) (hW : W1.heap.size ≤ g10) : I5 W1 N t4 g10 g11 s sS n xs (met L 9) (upd x 9 v) (V.setCell ⟨g10, 0, none⟩ (x 3)) := by
  obtain ⟨b1, b2, k0, k1, k2, k3, k4, k5, k6, k7, k8, kA, kx, ⟨u, c1, c2⟩, ⟨u', d1, d2⟩⟩ := h
  exact ⟨b1.setCell hW _, by simpa [World.setCell] using b2, k0, k1, k2, fun e => own_far (k3 e) (by simp only []; omega) _, k4, k5, k6, fun e => own_far (k7 e) (by simp only []; omega) _, k8, kA, kx,
    ⟨x 3, by (refine Box.of_f ?_; repeat (first | ((with_reducible refine BoxF.done (by with_reducible assumption) ?_); rfl) | ((with_reducible refine BoxF.new ?_ ?_); (focus (first | omega | (simp only [World.size_alloc, World.size_setCell, World.size_drew, World.heap_drewN]; first | done | omega))); rfl) | ((with_reducible refine BoxF.alloc ?_ ?_); (focus (first | omega | (simp only [World.size_alloc, World.size_setCell, World.size_drew, World.heap_drewN]; first | done | omega)))) | (with_reducible refine BoxF.set ?_) | ((with_reducible refine BoxF.far ?_ ?_); ((try simp only []); omega)) | (with_reducible refine BoxF.drewN ?_) | (with_reducible refine BoxF.drew ?_) | ((with_reducible refine BoxF.below (by with_reducible assumption) ?_ ?_); (focus (first | omega | (simp only [World.size_alloc, World.size_setCell, World.size_drew, World.heap_drewN]; first | done | omega)))))), fun _ => ⟨h3, rfl⟩⟩, ⟨u', by (refine Box.of_f ?_; repeat (first | ((with_reducible refine BoxF.done (by with_reducible assumption) ?_); rfl) | ((with_reducible refine BoxF.new ?_ ?_); (focus (first | omega | (simp only [World.size_alloc, World.size_setCell, World.size_drew, World.heap_drewN]; first | done | omega))); rfl) | ((with_reducible refine BoxF.alloc ?_ ?_); (focus (first | omega | (simp only [World.size_alloc, World.size_setCell, World.size_drew, World.heap_drewN]; first | done | omega)))) | (with_reducible refine BoxF.set ?_) | ((with_reducible refine BoxF.far ?_ ?_); ((try simp only []); omega)) | (with_reducible refine BoxF.drewN ?_) | (with_reducible refine BoxF.drew ?_) | ((with_reducible refine BoxF.below (by with_reducible assumption) ?_ ?_); (focus (first | omega | (simp only [World.size_alloc, World.size_setCell, World.size_drew, World.heap_drewN]; first | done | omega)))))), d2⟩⟩
theorem I5.setB (h : I5 W1 N t4 g10 g11 s sS n xs L x V) (h7 : L 7 = true) (hne : g10 ≠ g11) (hN : g11 < N) (hW : W1.heap.size ≤ g11) : I5 W1 N t4 g10 g11 s sS n xs (met L 11) (upd x 11 v) (V.setCell ⟨g11, 0, none⟩ (x 7)) := by
  obtain ⟨b1, b2, k0, k1, k2, k3, k4, k5, k6, k7, k8, kA, kx, ⟨u, c1, c2⟩, ⟨u', d1, d2⟩⟩ := h
  exact ⟨b1.setCell hW _, by simpa [World.setCell] using b2, k0, k1, k2, fun e => own_far (k3 e) (by simp only []; omega) _, k4, k5, k6, fun e => own_far (k7 e) (by simp only []; omega) _, k8, kA, kx,
    ⟨u, by (refine Box.of_f ?_; repeat (first | ((with_reducible refine BoxF.done (by with_reducible assumption) ?_); rfl) | ((with_reducible refine BoxF.new ?_ ?_); (focus (first | omega | (simp only [World.size_alloc, World.size_setCell, World.size_drew, World.heap_drewN]; first | done | omega))); rfl) | ((with_reducible refine BoxF.alloc ?_ ?_); (focus (first | omega | (simp only [World.size_alloc, World.size_setCell, World.size_drew, World.heap_drewN]; first | done | omega)))) | (with_reducible refine BoxF.set ?_) | ((with_reducible refine BoxF.far ?_ ?_); ((try simp only []); omega)) | (with_reducible refine BoxF.drewN ?_) | (with_reducible refine BoxF.drew ?_) | ((with_reducible refine BoxF.below (by with_reducible assumption) ?_ ?_); (focus (first | omega | (simp only [World.size_alloc, World.size_setCell, World.size_drew, World.heap_drewN]; first | done | omega)))))), c2⟩, ⟨x 7, by (refine Box.of_f ?_; repeat (first | ((with_reducible refine BoxF.done (by with_reducible assumption) ?_); rfl) | ((with_reducible refine BoxF.new ?_ ?_); (focus (first | omega | (simp only [World.size_alloc, World.size_setCell, World.size_drew, World.heap_drewN]; first | done | omega))); rfl) | ((with_reducible refine BoxF.alloc ?_ ?_); (focus (first | omega | (simp only [World.size_alloc, World.size_setCell, World.size_drew, World.heap_drewN]; first | done | omega)))) | (with_reducible refine BoxF.set ?_) | ((with_reducible refine BoxF.far ?_ ?_); ((try simp only []); omega)) | (with_reducible refine BoxF.drewN ?_) | (with_reducible refine BoxF.drew ?_) | ((with_reducible refine BoxF.below (by with_reducible assumption) ?_ ?_); (focus (first | omega | (simp only [World.size_alloc, World.size_setCell, World.size_drew, World.heap_drewN]; first | done | omega)))))), fun _ => ⟨h7, rfl⟩⟩⟩
end
end Go.Proofs.Ytigpefjeelgfdaa

/-
  Walks of layer 1's statements: HeatHarder.
-/
namespace Go.Proofs.Ytigpefjeelgfdaa
open Go.RowKit

set_option maxRecDepth 100000 in
set_option maxHeartbeats 4000000 in
theorem harderLaw_any (Ab As Ay : Option Addr) (cb cs cy : Nat) (x : Works) (recs : List Int) (more wa wb : Int) (B : Nat) (w : World) (h : In w B Ab As none cb cs 0 x []) (hy : IntsW .u8 w B Ay recs) (hy1 : recs.length ≤ cy) (hy2 : cy ≤ 9223372036854775807)
    (hm0 : 0 ≤ more) (hm1 : more ≤ 65535) (ha0 : 0 ≤ wa) (ha1 : wa ≤ 65535) (hc0 : 0 ≤ wb) (hc1 : wb ≤ 65535) :
    Calls Try.prog 11 #[.agg #[.slice Ab x.bars.length cb, .slice As x.steps.length cs], .slice Ay recs.length cy, .int .u16 more, .agg #[.int .u16 wa, .int .u16 wb]] w fun e w' => e = .returned (.bool true) ∧ Below w.heap.size w w' := by
  have hB := h.le
  have hgr : ∀ W : World, Below w.heap.size w W → Calls Try.prog 43 #[.agg #[.slice Ab x.bars.length cb, .slice As x.steps.length cs]] W fun e w' => e = .returned (.bool (fineB x)) ∧ Below W.heap.size W w' := fun W hW => fine_any Ab As cb cs x B W (h.on hW hB)
  have HG := Lib.hid hgr
  clear hgr
  cases hg : fineB x
  · have G := Lib.hid hg
    clear hg
    go_enter Try.func11, Try.ntmps11
    go_wp2_with (first
      | (go_at_call 43; refine (HG.out _ (by repeat (first | (with_reducible assumption) | (with_reducible exact Below.refl _ _) | ((with_reducible refine Below.alloc ?_ ?_ _); rotate_left; (focus (first | omega | (simp only [World.size_alloc, World.size_setCell, World.size_drew, World.heap_drewN]; first | done | omega)))) | ((with_reducible refine Below.setCell ?_ ?_ _); rotate_left; (focus (first | omega | (simp only [World.size_alloc, World.size_setCell, World.size_drew, World.heap_drewN]; first | done | omega)))) | (with_reducible refine below_drewN ?_ _) | (with_reducible refine Below.drew ?_) | ((with_reducible refine Below.trans ?_ (Below.mono (by assumption) ?_)); rotate_left; (focus (first | omega | (simp only [World.size_alloc, World.size_setCell, World.size_drew, World.heap_drewN]; first | done | omega))))))).mono ?_; rintro e w1 ⟨rfl, hb1⟩; rw [G.out]; obtain ⟨_hr1, _hr2⟩ := below_reads hb1; have _hz := Below.size hb1; (try simp only [World.size_alloc, World.size_setCell, World.size_drew, World.heap_drewN] at _hz); obtain ⟨_hr3, _hr4⟩ := below_reads (show Below w.heap.size w w1 from (by repeat (first | (with_reducible assumption) | (with_reducible exact Below.refl _ _) | ((with_reducible refine Below.alloc ?_ ?_ _); rotate_left; (focus (first | omega | (simp only [World.size_alloc, World.size_setCell, World.size_drew, World.heap_drewN]; first | done | omega)))) | ((with_reducible refine Below.setCell ?_ ?_ _); rotate_left; (focus (first | omega | (simp only [World.size_alloc, World.size_setCell, World.size_drew, World.heap_drewN]; first | done | omega)))) | (with_reducible refine below_drewN ?_ _) | (with_reducible refine Below.drew ?_) | ((with_reducible refine Below.trans ?_ (Below.mono (by assumption) ?_)); rotate_left; (focus (first | omega | (simp only [World.size_alloc, World.size_setCell, World.size_drew, World.heap_drewN]; first | done | omega))))))); have _q0 : w.heap.size < w1.heap.size := (by omega); have _q1 : w.heap.size + 1 < w1.heap.size := (by omega))
      | (go_at_call 16; refine (works_any _).mono ?_; rintro e w3 ⟨rfl, hb3⟩; obtain ⟨_hr1, _hr2⟩ := below_reads hb3; have _hz := Below.size hb3; (try simp only [World.size_alloc, World.size_setCell, World.size_drew, World.heap_drewN] at _hz); obtain ⟨_hr3, _hr4⟩ := below_reads (show Below w.heap.size w w3 from (by repeat (first | (with_reducible assumption) | (with_reducible exact Below.refl _ _) | ((with_reducible refine Below.alloc ?_ ?_ _); rotate_left; (focus (first | omega | (simp only [World.size_alloc, World.size_setCell, World.size_drew, World.heap_drewN]; first | done | omega)))) | ((with_reducible refine Below.setCell ?_ ?_ _); rotate_left; (focus (first | omega | (simp only [World.size_alloc, World.size_setCell, World.size_drew, World.heap_drewN]; first | done | omega)))) | (with_reducible refine below_drewN ?_ _) | (with_reducible refine Below.drew ?_) | ((with_reducible refine Below.trans ?_ (Below.mono (by assumption) ?_)); rotate_left; (focus (first | omega | (simp only [World.size_alloc, World.size_setCell, World.size_drew, World.heap_drewN]; first | done | omega))))))); have _q0 : w.heap.size < w3.heap.size := (by omega); have _q1 : w.heap.size + 1 < w3.heap.size := (by omega)))
    go_ret
    exact ⟨rfl, (by repeat (first | (with_reducible assumption) | (with_reducible exact Below.refl _ _) | ((with_reducible refine Below.alloc ?_ ?_ _); rotate_left; (focus (first | omega | (simp only [World.size_alloc, World.size_setCell, World.size_drew, World.heap_drewN]; first | done | omega)))) | ((with_reducible refine Below.setCell ?_ ?_ _); rotate_left; (focus (first | omega | (simp only [World.size_alloc, World.size_setCell, World.size_drew, World.heap_drewN]; first | done | omega)))) | (with_reducible refine below_drewN ?_ _) | (with_reducible refine Below.drew ?_) | ((with_reducible refine Below.trans ?_ (Below.mono (by assumption) ?_)); rotate_left; (focus (first | omega | (simp only [World.size_alloc, World.size_setCell, World.size_drew, World.heap_drewN]; first | done | omega))))))⟩
  have hw := fineB_works hg
  have G := Lib.hid hg
  clear hg
  by_cases n1 : 20 < recs.length
  · go_enter Try.func11, Try.ntmps11
    go_wp2_with (first
      | (go_at_call 43; refine (HG.out _ (by repeat (first | (with_reducible assumption) | (with_reducible exact Below.refl _ _) | ((with_reducible refine Below.alloc ?_ ?_ _); rotate_left; (focus (first | omega | (simp only [World.size_alloc, World.size_setCell, World.size_drew, World.heap_drewN]; first | done | omega)))) | ((with_reducible refine Below.setCell ?_ ?_ _); rotate_left; (focus (first | omega | (simp only [World.size_alloc, World.size_setCell, World.size_drew, World.heap_drewN]; first | done | omega)))) | (with_reducible refine below_drewN ?_ _) | (with_reducible refine Below.drew ?_) | ((with_reducible refine Below.trans ?_ (Below.mono (by assumption) ?_)); rotate_left; (focus (first | omega | (simp only [World.size_alloc, World.size_setCell, World.size_drew, World.heap_drewN]; first | done | omega))))))).mono ?_; rintro e w1 ⟨rfl, hb1⟩; rw [G.out]; obtain ⟨_hr1, _hr2⟩ := below_reads hb1; have _hz := Below.size hb1; (try simp only [World.size_alloc, World.size_setCell, World.size_drew, World.heap_drewN] at _hz); obtain ⟨_hr3, _hr4⟩ := below_reads (show Below w.heap.size w w1 from (by repeat (first | (with_reducible assumption) | (with_reducible exact Below.refl _ _) | ((with_reducible refine Below.alloc ?_ ?_ _); rotate_left; (focus (first | omega | (simp only [World.size_alloc, World.size_setCell, World.size_drew, World.heap_drewN]; first | done | omega)))) | ((with_reducible refine Below.setCell ?_ ?_ _); rotate_left; (focus (first | omega | (simp only [World.size_alloc, World.size_setCell, World.size_drew, World.heap_drewN]; first | done | omega)))) | (with_reducible refine below_drewN ?_ _) | (with_reducible refine Below.drew ?_) | ((with_reducible refine Below.trans ?_ (Below.mono (by assumption) ?_)); rotate_left; (focus (first | omega | (simp only [World.size_alloc, World.size_setCell, World.size_drew, World.heap_drewN]; first | done | omega))))))); have _q0 : w.heap.size < w1.heap.size := (by omega); have _q1 : w.heap.size + 1 < w1.heap.size := (by omega))
      | (go_at_call 16; refine (works_any _).mono ?_; rintro e w3 ⟨rfl, hb3⟩; obtain ⟨_hr1, _hr2⟩ := below_reads hb3; have _hz := Below.size hb3; (try simp only [World.size_alloc, World.size_setCell, World.size_drew, World.heap_drewN] at _hz); obtain ⟨_hr3, _hr4⟩ := below_reads (show Below w.heap.size w w3 from (by repeat (first | (with_reducible assumption) | (with_reducible exact Below.refl _ _) | ((with_reducible refine Below.alloc ?_ ?_ _); rotate_left; (focus (first | omega | (simp only [World.size_alloc, World.size_setCell, World.size_drew, World.heap_drewN]; first | done | omega)))) | ((with_reducible refine Below.setCell ?_ ?_ _); rotate_left; (focus (first | omega | (simp only [World.size_alloc, World.size_setCell, World.size_drew, World.heap_drewN]; first | done | omega)))) | (with_reducible refine below_drewN ?_ _) | (with_reducible refine Below.drew ?_) | ((with_reducible refine Below.trans ?_ (Below.mono (by assumption) ?_)); rotate_left; (focus (first | omega | (simp only [World.size_alloc, World.size_setCell, World.size_drew, World.heap_drewN]; first | done | omega))))))); have _q0 : w.heap.size < w3.heap.size := (by omega); have _q1 : w.heap.size + 1 < w3.heap.size := (by omega)))
    go_ret
    exact ⟨rfl, (by repeat (first | (with_reducible assumption) | (with_reducible exact Below.refl _ _) | ((with_reducible refine Below.alloc ?_ ?_ _); rotate_left; (focus (first | omega | (simp only [World.size_alloc, World.size_setCell, World.size_drew, World.heap_drewN]; first | done | omega)))) | ((with_reducible refine Below.setCell ?_ ?_ _); rotate_left; (focus (first | omega | (simp only [World.size_alloc, World.size_setCell, World.size_drew, World.heap_drewN]; first | done | omega)))) | (with_reducible refine below_drewN ?_ _) | (with_reducible refine Below.drew ?_) | ((with_reducible refine Below.trans ?_ (Below.mono (by assumption) ?_)); rotate_left; (focus (first | omega | (simp only [World.size_alloc, World.size_setCell, World.size_drew, World.heap_drewN]; first | done | omega))))))⟩
  have hone : ∀ W : World, Below w.heap.size w W → Calls Try.prog 44 #[.agg #[.slice Ab x.bars.length cb, .slice As x.steps.length cs], .slice Ay recs.length cy] W (RetRec x W) := fun W hW => one_ok Ab As Ay cb cs cy x recs B W (h.on hW hB) (intsW_on hy hW hB) hy1 hy2 hw
  have HONE := Lib.hid hone
  have hin : ∀ W : World, Below w.heap.size w W → In W W.heap.size Ab As none cb cs 0 x [] := fun W hW => h.up hW
  have HIN := Lib.hid hin
  clear hone hin h hy hw
  have hs6 : x.steps.length ≤ 6 := by
    have := fineB_works G.out
    exact steps_few this
  go_enter Try.func11, Try.ntmps11
  go_wp2_with (first
    | (go_at_call 43; refine (HG.out _ (by repeat (first | (with_reducible assumption) | (with_reducible exact Below.refl _ _) | ((with_reducible refine Below.alloc ?_ ?_ _); rotate_left; (focus (first | omega | (simp only [World.size_alloc, World.size_setCell, World.size_drew, World.heap_drewN]; first | done | omega)))) | ((with_reducible refine Below.setCell ?_ ?_ _); rotate_left; (focus (first | omega | (simp only [World.size_alloc, World.size_setCell, World.size_drew, World.heap_drewN]; first | done | omega)))) | (with_reducible refine below_drewN ?_ _) | (with_reducible refine Below.drew ?_) | ((with_reducible refine Below.trans ?_ (Below.mono (by assumption) ?_)); rotate_left; (focus (first | omega | (simp only [World.size_alloc, World.size_setCell, World.size_drew, World.heap_drewN]; first | done | omega))))))).mono ?_; rintro e w1 ⟨rfl, hb1⟩; rw [G.out]; obtain ⟨_hr1, _hr2⟩ := below_reads hb1; have _hz := Below.size hb1; (try simp only [World.size_alloc, World.size_setCell, World.size_drew, World.heap_drewN] at _hz); obtain ⟨_hr3, _hr4⟩ := below_reads (show Below w.heap.size w w1 from (by repeat (first | (with_reducible assumption) | (with_reducible exact Below.refl _ _) | ((with_reducible refine Below.alloc ?_ ?_ _); rotate_left; (focus (first | omega | (simp only [World.size_alloc, World.size_setCell, World.size_drew, World.heap_drewN]; first | done | omega)))) | ((with_reducible refine Below.setCell ?_ ?_ _); rotate_left; (focus (first | omega | (simp only [World.size_alloc, World.size_setCell, World.size_drew, World.heap_drewN]; first | done | omega)))) | (with_reducible refine below_drewN ?_ _) | (with_reducible refine Below.drew ?_) | ((with_reducible refine Below.trans ?_ (Below.mono (by assumption) ?_)); rotate_left; (focus (first | omega | (simp only [World.size_alloc, World.size_setCell, World.size_drew, World.heap_drewN]; first | done | omega))))))); have _q0 : w.heap.size < w1.heap.size := (by omega); have _q1 : w.heap.size + 1 < w1.heap.size := (by omega))
    | (go_at_call 44; refine (HONE.out _ (by repeat (first | (with_reducible assumption) | (with_reducible exact Below.refl _ _) | ((with_reducible refine Below.alloc ?_ ?_ _); rotate_left; (focus (first | omega | (simp only [World.size_alloc, World.size_setCell, World.size_drew, World.heap_drewN]; first | done | omega)))) | ((with_reducible refine Below.setCell ?_ ?_ _); rotate_left; (focus (first | omega | (simp only [World.size_alloc, World.size_setCell, World.size_drew, World.heap_drewN]; first | done | omega)))) | (with_reducible refine below_drewN ?_ _) | (with_reducible refine Below.drew ?_) | ((with_reducible refine Below.trans ?_ (Below.mono (by assumption) ?_)); rotate_left; (focus (first | omega | (simp only [World.size_alloc, World.size_setCell, World.size_drew, World.heap_drewN]; first | done | omega))))))).mono ?_; rintro e w2 ⟨bar, Ar, cr, ways, rfl, ok, hr, hr1, hr2, hb2⟩; obtain ⟨m, hbar⟩ := Int.eq_ofNat_of_zero_le ok.bar0; subst hbar; have OK := Lib.hid ok; have HI := Lib.hid ((HIN.out w2 (by repeat (first | (with_reducible assumption) | (with_reducible exact Below.refl _ _) | ((with_reducible refine Below.alloc ?_ ?_ _); rotate_left; (focus (first | omega | (simp only [World.size_alloc, World.size_setCell, World.size_drew, World.heap_drewN]; first | done | omega)))) | ((with_reducible refine Below.setCell ?_ ?_ _); rotate_left; (focus (first | omega | (simp only [World.size_alloc, World.size_setCell, World.size_drew, World.heap_drewN]; first | done | omega)))) | (with_reducible refine below_drewN ?_ _) | (with_reducible refine Below.drew ?_) | ((with_reducible refine Below.trans ?_ (Below.mono (by assumption) ?_)); rotate_left; (focus (first | omega | (simp only [World.size_alloc, World.size_setCell, World.size_drew, World.heap_drewN]; first | done | omega))))))).with_ (Below.refl _ _) hr hr1 hr2); clear ok hr hr1 hr2; obtain ⟨_hr1, _hr2⟩ := below_reads hb2; have _hz := Below.size hb2; (try simp only [World.size_alloc, World.size_setCell, World.size_drew, World.heap_drewN] at _hz); obtain ⟨_hr3, _hr4⟩ := below_reads (show Below w.heap.size w w2 from (by repeat (first | (with_reducible assumption) | (with_reducible exact Below.refl _ _) | ((with_reducible refine Below.alloc ?_ ?_ _); rotate_left; (focus (first | omega | (simp only [World.size_alloc, World.size_setCell, World.size_drew, World.heap_drewN]; first | done | omega)))) | ((with_reducible refine Below.setCell ?_ ?_ _); rotate_left; (focus (first | omega | (simp only [World.size_alloc, World.size_setCell, World.size_drew, World.heap_drewN]; first | done | omega)))) | (with_reducible refine below_drewN ?_ _) | (with_reducible refine Below.drew ?_) | ((with_reducible refine Below.trans ?_ (Below.mono (by assumption) ?_)); rotate_left; (focus (first | omega | (simp only [World.size_alloc, World.size_setCell, World.size_drew, World.heap_drewN]; first | done | omega))))))); have _q0 : w.heap.size < w2.heap.size := (by omega); have _q1 : w.heap.size + 1 < w2.heap.size := (by omega)))
  have B4 : Box (w2.alloc (.cells #[.int .i64 m, .slice Ar ways.length cr] 42)) w.heap.size 25 #[.slice Ab x.bars.length cb, .slice As x.steps.length cs] := by (refine Box.of_f ?_; repeat (first | ((with_reducible refine BoxF.done (by with_reducible assumption) ?_); rfl) | ((with_reducible refine BoxF.new ?_ ?_); (focus (first | omega | (simp only [World.size_alloc, World.size_setCell, World.size_drew, World.heap_drewN]; first | done | omega))); rfl) | ((with_reducible refine BoxF.alloc ?_ ?_); (focus (first | omega | (simp only [World.size_alloc, World.size_setCell, World.size_drew, World.heap_drewN]; first | done | omega)))) | (with_reducible refine BoxF.set ?_) | ((with_reducible refine BoxF.far ?_ ?_); ((try simp only []); omega)) | (with_reducible refine BoxF.drewN ?_) | (with_reducible refine BoxF.drew ?_) | ((with_reducible refine BoxF.below (by with_reducible assumption) ?_ ?_); (focus (first | omega | (simp only [World.size_alloc, World.size_setCell, World.size_drew, World.heap_drewN]; first | done | omega))))))
  have B7 : Box (w2.alloc (.cells #[.int .i64 m, .slice Ar ways.length cr] 42)) (w.heap.size + 1) 80 #[.int .u16 wa, .int .u16 wb] := by (refine Box.of_f ?_; repeat (first | ((with_reducible refine BoxF.done (by with_reducible assumption) ?_); rfl) | ((with_reducible refine BoxF.new ?_ ?_); (focus (first | omega | (simp only [World.size_alloc, World.size_setCell, World.size_drew, World.heap_drewN]; first | done | omega))); rfl) | ((with_reducible refine BoxF.alloc ?_ ?_); (focus (first | omega | (simp only [World.size_alloc, World.size_setCell, World.size_drew, World.heap_drewN]; first | done | omega)))) | (with_reducible refine BoxF.set ?_) | ((with_reducible refine BoxF.far ?_ ?_); ((try simp only []); omega)) | (with_reducible refine BoxF.drewN ?_) | (with_reducible refine BoxF.drew ?_) | ((with_reducible refine BoxF.below (by with_reducible assumption) ?_ ?_); (focus (first | omega | (simp only [World.size_alloc, World.size_setCell, World.size_drew, World.heap_drewN]; first | done | omega))))))
  have B9 : Box (w2.alloc (.cells #[.int .i64 m, .slice Ar ways.length cr] 42)) w2.heap.size 42 #[.int .i64 m, .slice Ar ways.length cr] := Box.new _ _ _
  have hW1 : Below w.heap.size w (w2.alloc (.cells #[.int .i64 m, .slice Ar ways.length cr] 42)) := (by repeat (first | (with_reducible assumption) | (with_reducible exact Below.refl _ _) | ((with_reducible refine Below.alloc ?_ ?_ _); rotate_left; (focus (first | omega | (simp only [World.size_alloc, World.size_setCell, World.size_drew, World.heap_drewN]; first | done | omega)))) | ((with_reducible refine Below.setCell ?_ ?_ _); rotate_left; (focus (first | omega | (simp only [World.size_alloc, World.size_setCell, World.size_drew, World.heap_drewN]; first | done | omega)))) | (with_reducible refine below_drewN ?_ _) | (with_reducible refine Below.drew ?_) | ((with_reducible refine Below.trans ?_ (Below.mono (by assumption) ?_)); rotate_left; (focus (first | omega | (simp only [World.size_alloc, World.size_setCell, World.size_drew, World.heap_drewN]; first | done | omega))))))
  have hi1 : ∀ V, Below (w2.alloc (.cells #[.int .i64 m, .slice Ar ways.length cr] 42)).heap.size (w2.alloc (.cells #[.int .i64 m, .slice Ar ways.length cr] 42)) V → In V V.heap.size Ab As Ar cb cs cr x ways := fun V hV => HI.out.up (((Below.refl _ _).alloc (Nat.le_refl _) _).trans (hV.mono (by simp)))
  have HI1 := Lib.hid hi1
  clear hi1 HI
  generalize w2.alloc (.cells #[.int .i64 m, .slice Ar ways.length cr] 42) = W1 at B4 B7 B9 hW1 HI1 ⊢
  have H4 := box_cells2 B4
  have H7 := box_cells2 B7
  have H9 := box_cells2 B9
  have l4 := B4.lt
  have l7 := B7.lt
  have l9 := B9.lt
  clear HIN HONE hb1 hb2 B4 B7 B9 _hr1 _hr2 _hr3 _hr4 _hz _q0 _q1
  generalize w2.heap.size = t9 at H9 l9 ⊢
  generalize w.heap.size + 1 = t7 at H7 l7 ⊢
  -- region 4
  refine wp_join (R := fun a a' w' => ∃ (g g' : Nat) (x0 x1 : Value), a' = (((a.put (some 32) x0).put (some 33) x1).put (some 10) (.pointer (some ⟨g, 0, none⟩))).put (some 11) (.pointer (some ⟨g', 0, none⟩)) ∧ Box w' g 25 #[.slice Ab x.bars.length cb, .slice As x.steps.length cs] ∧ Box w' g' 25 #[.slice Ab x.bars.length cb, .slice As x.steps.length cs] ∧ g ≠ g' ∧ W1.heap.size ≤ g ∧ W1.heap.size ≤ g' ∧ Below W1.heap.size W1 w') ?_ ?_
  · go_region_held3 (fun V => V.cell? ⟨w.heap.size, 0, none⟩ = some (.slice Ab x.bars.length cb) ∧ V.cell? ⟨w.heap.size, 0 + 1, none⟩ = some (.slice As x.steps.length cs)) ((exact H4.out _ (by repeat (first | (with_reducible assumption) | (with_reducible exact Below.refl _ _) | ((with_reducible refine Below.alloc ?_ ?_ _); rotate_left; (focus (first | omega | (simp only [World.size_alloc, World.size_setCell, World.size_drew, World.heap_drewN]; first | done | omega)))) | ((with_reducible refine Below.setCell ?_ ?_ _); rotate_left; (focus (first | omega | (simp only [World.size_alloc, World.size_setCell, World.size_drew, World.heap_drewN]; first | done | omega)))) | (with_reducible refine below_drewN ?_ _) | (with_reducible refine Below.drew ?_) | ((with_reducible refine Below.trans ?_ (Below.mono (by assumption) ?_)); rotate_left; (focus (first | omega | (simp only [World.size_alloc, World.size_setCell, World.size_drew, World.heap_drewN]; first | done | omega)))))))) (fail)
    all_goals exact ⟨_, _, _, _, rfl, by (refine Box.of_f ?_; repeat (first | ((with_reducible refine BoxF.done (by with_reducible assumption) ?_); rfl) | ((with_reducible refine BoxF.new ?_ ?_); (focus (first | omega | (simp only [World.size_alloc, World.size_setCell, World.size_drew, World.heap_drewN]; first | done | omega))); rfl) | ((with_reducible refine BoxF.alloc ?_ ?_); (focus (first | omega | (simp only [World.size_alloc, World.size_setCell, World.size_drew, World.heap_drewN]; first | done | omega)))) | (with_reducible refine BoxF.set ?_) | ((with_reducible refine BoxF.far ?_ ?_); ((try simp only []); omega)) | (with_reducible refine BoxF.drewN ?_) | (with_reducible refine BoxF.drew ?_) | ((with_reducible refine BoxF.below (by with_reducible assumption) ?_ ?_); (focus (first | omega | (simp only [World.size_alloc, World.size_setCell, World.size_drew, World.heap_drewN]; first | done | omega)))))), by (refine Box.of_f ?_; repeat (first | ((with_reducible refine BoxF.done (by with_reducible assumption) ?_); rfl) | ((with_reducible refine BoxF.new ?_ ?_); (focus (first | omega | (simp only [World.size_alloc, World.size_setCell, World.size_drew, World.heap_drewN]; first | done | omega))); rfl) | ((with_reducible refine BoxF.alloc ?_ ?_); (focus (first | omega | (simp only [World.size_alloc, World.size_setCell, World.size_drew, World.heap_drewN]; first | done | omega)))) | (with_reducible refine BoxF.set ?_) | ((with_reducible refine BoxF.far ?_ ?_); ((try simp only []); omega)) | (with_reducible refine BoxF.drewN ?_) | (with_reducible refine BoxF.drew ?_) | ((with_reducible refine BoxF.below (by with_reducible assumption) ?_ ?_); (focus (first | omega | (simp only [World.size_alloc, World.size_setCell, World.size_drew, World.heap_drewN]; first | done | omega)))))), by omega, by omega, by omega, (by repeat (first | (with_reducible assumption) | (with_reducible exact Below.refl _ _) | ((with_reducible refine Below.alloc ?_ ?_ _); rotate_left; (focus (first | omega | (simp only [World.size_alloc, World.size_setCell, World.size_drew, World.heap_drewN]; first | done | omega)))) | ((with_reducible refine Below.setCell ?_ ?_ _); rotate_left; (focus (first | omega | (simp only [World.size_alloc, World.size_setCell, World.size_drew, World.heap_drewN]; first | done | omega)))) | (with_reducible refine below_drewN ?_ _) | (with_reducible refine Below.drew ?_) | ((with_reducible refine Below.trans ?_ (Below.mono (by assumption) ?_)); rotate_left; (focus (first | omega | (simp only [World.size_alloc, World.size_setCell, World.size_drew, World.heap_drewN]; first | done | omega))))))⟩
  rintro a' W5 ⟨g10, g11, x0, x1, rfl, BX, BY, hne, hu10, hu11, d5⟩
  simp only [Act.put, List.setIfInBounds_toArray, List.set_cons_zero, List.set_cons_succ]
  have l10 := BX.lt
  have l11 := BY.lt
  have y5 := d5.size
  have hbn := bars_few OK.out.works
  obtain ⟨b, off, hA, hbl, hbx⟩ := (HI1.out W1 (Below.refl _ _)).bars hbn.1
  subst hA
  have hbc : ∀ V, Below W1.heap.size W1 V → ∀ j u, (x.bars.flatMap rgV)[j]? = some u → V.cell? ((⟨b, off, none⟩ : Addr).add j) = some u := fun V hV => rgs_cells fun i r hi => by
    obtain ⟨g1, g2⟩ := hbx i r hi
    exact ⟨(hV.cell (p := ⟨b, off + i * 2, none⟩) hbl).trans g1, (hV.cell (p := ⟨b, off + i * 2 + 1, none⟩) hbl).trans g2⟩
  have HBC := Lib.hid hbc
  have hm6 : m < x.bars.length := by have := OK.out.bar1; omega
  have hbv := bar_val OK.out
  obtain ⟨lo, hi, hlo⟩ : ∃ a b, rgAt x.bars m = (a, b) := ⟨_, _, rfl⟩
  have hbm : ∀ V, Below W1.heap.size W1 V → V.cell? ⟨b, off + m * 2, none⟩ = some (.int .i64 lo) ∧ V.cell? ⟨b, off + m * 2 + 1, none⟩ = some (.int .i64 hi) := fun V hV => by
    have e : x.bars[m]? = some (rgAt x.bars m) := by
      rw [List.getElem?_eq_getElem hm6]
      simp [rgAt, List.getD_eq_getElem?_getD, hm6]
    obtain ⟨g1, g2⟩ := hbx m _ e
    rw [hlo] at g1 g2
    exact ⟨(hV.cell (p := ⟨b, off + m * 2, none⟩) hbl).trans g1, (hV.cell (p := ⟨b, off + m * 2 + 1, none⟩) hbl).trans g2⟩
  have HBM := Lib.hid hbm
  rw [hlo] at hbv
  simp only at hbv
  have HLO := Lib.hid hlo
  clear hbc hbx hbm hlo
  obtain ⟨i0, hi', hy0, hy1', hy2'⟩ := info_parts infoRange
  go_wp2_with fail
  -- region 5
  refine wp_region_inv (F := ?_) (I5 W1 W5.heap.size w.heap.size g10 g11 (.slice (some ⟨b, off, none⟩) x.bars.length cb) (.slice As x.steps.length cs) x.bars.length (x.bars.flatMap rgV)) (by kernel_rfl) (by kernel_rfl) (by kernel_rfl) (by intro x; simp only [List.map_cons, List.map_nil, putAll, Act.put, List.setIfInBounds_toArray, List.set_cons_zero, List.set_cons_succ, Nat.zero_add, Nat.reduceAdd]; rfl) ?_ ?_ ?_
  · intro y
    exact ⟨d5.drew, Nat.le_refl _, fun e => Bool.noConfusion e, fun e => Bool.noConfusion e, fun e => Bool.noConfusion e, fun e => Bool.noConfusion e, fun e => Bool.noConfusion e, fun e => Bool.noConfusion e, fun e => Bool.noConfusion e, fun e => Bool.noConfusion e, fun e => Bool.noConfusion e, fun e => Bool.noConfusion e, fun e => Bool.noConfusion e, ⟨_, BX.drew, fun e => Bool.noConfusion e⟩, ⟨_, BY.drew, fun e => Bool.noConfusion e⟩⟩
  · refine StepsI.cons (fun L y V hI hL hd K hK => ?_) ?_
    · go_simp
      exact hK.out _ _ ((hI.later ((Below.refl _ _).alloc (Nat.le_refl _) _)).set0 _)
    refine StepsI.cons (fun L y V hI hL hd K hK => ?_) ?_
    · go_simp
      exact hK.out _ _ hI.set1
    refine StepsI.cons (fun L y V hI hL hd K hK => ?_) ?_
    · have e := hI.k1 (hd 1 (by kernel_rfl))
      obtain ⟨c0, c1⟩ := H4.out V hI.b1
      go_simp
      have q := hK.out _ _ hI.set2
      rw [e] at q
      exact q
    refine StepsI.cons (fun L y V hI hL hd K hK => ?_) ?_
    · obtain ⟨g, e⟩ := hI.k0 (hd 0 (by kernel_rfl))
      have e2 := hI.k2 (hd 2 (by kernel_rfl))
      refine step_append_grows rfl (.tmp 34) (.tmp 36) 22 rfl 33 i0 _ 2 16 Try.underlying22 hi' hy0 hy1' hy2' rfl (by decide) (some ⟨g, 0, none⟩) 0 0 [] e (fun e => by cases e) rfl (fun _ _ j u h => by simp at h) ⟨b, off, none⟩ x.bars.length cb (x.bars.flatMap rgV) e2 (flatMap_rgs_len _) (HBC.out V hI.b1) (rgs_one _) (by omega) (by simp [maxLen]; omega) (by omega) ?_
      intro v' w' ho hg
      rw [Nat.zero_add, List.nil_append] at ho
      exact hK.out _ _ (hI.set3 hL hbn.1 ho hg)
    refine StepsI.cons (fun L y V hI hL hd K hK => ?_) ?_
    · go_simp
      exact hK.out _ _ ((hI.later ((Below.refl _ _).alloc (Nat.le_refl _) _)).set4 _)
    refine StepsI.cons (fun L y V hI hL hd K hK => ?_) ?_
    · go_simp
      exact hK.out _ _ hI.set5
    refine StepsI.cons (fun L y V hI hL hd K hK => ?_) ?_
    · have e := hI.k5 (hd 5 (by kernel_rfl))
      obtain ⟨c0, c1⟩ := H4.out V hI.b1
      go_simp
      have q := hK.out _ _ hI.set6
      rw [e] at q
      exact q
    refine StepsI.cons (fun L y V hI hL hd K hK => ?_) ?_
    · obtain ⟨g, e⟩ := hI.k4 (hd 4 (by kernel_rfl))
      have e2 := hI.k6 (hd 6 (by kernel_rfl))
      refine step_append_grows rfl (.tmp 38) (.tmp 40) 22 rfl 33 i0 _ 2 16 Try.underlying22 hi' hy0 hy1' hy2' rfl (by decide) (some ⟨g, 0, none⟩) 0 0 [] e (fun e => by cases e) rfl (fun _ _ j u h => by simp at h) ⟨b, off, none⟩ x.bars.length cb (x.bars.flatMap rgV) e2 (flatMap_rgs_len _) (HBC.out V hI.b1) (rgs_one _) (by omega) (by simp [maxLen]; omega) (by omega) ?_
      intro v' w' ho hg
      rw [Nat.zero_add, List.nil_append] at ho
      exact hK.out _ _ (hI.set7 hL hbn.1 ho hg)
    refine StepsI.cons (fun L y V hI hL hd K hK => ?_) ?_
    · go_simp
      exact hK.out _ _ hI.set8
    refine StepsI.cons (fun L y V hI hL hd K hK => ?_) ?_
    · have e := hI.k8 (hd 8 (by kernel_rfl))
      have e3 := hd 3 (by kernel_rfl)
      obtain ⟨u, c1, c2⟩ := hI.bA
      obtain ⟨r1, r2, r3, r4⟩ := c1.two
      clear c2
      obtain ⟨A9, c9, e9⟩ := own_slice (hI.k3 e3)
      go_simp
      have q := hK.out undef _ (hI.set9 (v := undef) e3 hne l10 hu10)
      rw [e, e9] at q
      exact q
    refine StepsI.cons (fun L y V hI hL hd K hK => ?_) ?_
    · go_simp
      exact hK.out _ _ hI.setA
    refine StepsI.cons (fun L y V hI hL hd K hK => ?_) ?_
    · have e := hI.kA (hd 10 (by kernel_rfl))
      have e3 := hd 7 (by kernel_rfl)
      obtain ⟨u, c1, c2⟩ := hI.bB
      obtain ⟨r1, r2, r3, r4⟩ := c1.two
      clear c2
      obtain ⟨A9, c9, e9⟩ := own_slice (hI.k7 e3)
      go_simp
      have q := hK.out undef _ (hI.setB (v := undef) e3 hne l11 hu11)
      rw [e, e9] at q
      exact q
    exact StepsI.nil
  intro L y V5 hI hall
  obtain ⟨uA, BA, hA9⟩ := hI.bA
  obtain ⟨uB, BB, hB9⟩ := hI.bB
  obtain ⟨_, rfl⟩ := hA9 (hall 9 (by decide))
  obtain ⟨_, rfl⟩ := hB9 (hall 11 (by decide))
  obtain ⟨gA, cA, eA, oA⟩ := own_bars (hI.k3 (hall 3 (by decide))) hbn.1
  obtain ⟨gB, cB, eB, oB⟩ := own_bars (hI.k7 (hall 7 (by decide))) hbn.1
  have hAB : gA ≠ gB := by
    have := hI.kx (hall 3 (by decide)) (hall 7 (by decide))
    rw [eA, eB] at this
    simpa [Value.ownBlock] using this
  rw [eA] at BA
  rw [eB] at BB
  have R5 := hI.b1
  have z5 := hI.b2
  clear hI hall hA9 hB9 eA eB hi' hy0 hy1' hy2' HBC
  have hA10 : ∀ V, Below W5.heap.size V5 V → V.cell? ⟨g10, 0, none⟩ = some (.slice (some ⟨gA, 0, none⟩) x.bars.length cA) ∧ V.cell? ⟨g10, 0 + 1, none⟩ = some (.slice As x.steps.length cs) := fun V hV => ⟨(Box.below BA hV l10).cell 0, (Box.below BA hV l10).cell 1⟩
  have hB11 : ∀ V, Below W5.heap.size V5 V → V.cell? ⟨g11, 0, none⟩ = some (.slice (some ⟨gB, 0, none⟩) x.bars.length cB) ∧ V.cell? ⟨g11, 0 + 1, none⟩ = some (.slice As x.steps.length cs) := fun V hV => ⟨(Box.below BB hV l11).cell 0, (Box.below BB hV l11).cell 1⟩
  have HA := Lib.hid hA10
  have HB := Lib.hid hB11
  clear hA10 hB11 BA BB BX BY
  obtain ⟨a0, a1⟩ := H4.out V5 R5
  obtain ⟨a2, a3⟩ := H9.out V5 R5
  obtain ⟨a4, a5⟩ := HBM.out V5 R5
  have s1 : (m : Int) < (x.bars.length : Int) := by omega
  go_wp2_with fail
  have R6 : Below W1.heap.size W1 (V5.alloc (.cells #[.int .i64 lo, .int .i64 hi] 33)) := R5.alloc (by omega) _
  have Q6 : Below W5.heap.size V5 (V5.alloc (.cells #[.int .i64 lo, .int .i64 hi] 33)) := (Below.refl _ _).alloc z5 _
  have oA6 := oA.later ((Below.refl V5.heap.size V5).alloc (Nat.le_refl _) (.cells #[.int .i64 lo, .int .i64 hi] 33)) oA.lt
  have oB6 := oB.later ((Below.refl V5.heap.size V5).alloc (Nat.le_refl _) (.cells #[.int .i64 lo, .int .i64 hi] 33)) oB.lt
  have B12 : Box (V5.alloc (.cells #[.int .i64 lo, .int .i64 hi] 33)) V5.heap.size 33 #[.int .i64 lo, .int .i64 hi] := Box.new _ _ _
  have gA1 := oA.lt
  have gB1 := oB.lt
  have gA0 := oA.base
  have gB0 := oB.base
  generalize V5.alloc (.cells #[.int .i64 lo, .int .i64 hi] 33) = W6 at R6 Q6 oA6 oB6 B12 ⊢
  have H12 := box_cells2 B12
  have l12 := B12.lt
  generalize V5.heap.size = t12 at B12 H12 l12 gA1 gB1 z5 ⊢
  clear a0 a1 a2 a3 a4 a5 oA oB R5
  obtain ⟨b0, b1⟩ := HA.out W6 Q6
  obtain ⟨b2, b3⟩ := H9.out W6 R6
  obtain ⟨b4, b5⟩ := H12.out W6 (Below.refl _ _)
  have v1 : g10 < W6.heap.size := by omega
  have v2 : t9 < W6.heap.size := by omega
  have u1 : IntKind.i64.wrap (lo + more) = lo + more := IntWalk.i64_in _ (by omega)
  have u2 : IntKind.i64.wrap (hi + more) = hi + more := IntWalk.i64_in _ (by omega)
  have u3 : IntKind.i64.wrap more = more := IntWalk.i64_in _ (by omega)
  have u1' : wrap64 (lo + more) = lo + more := wrap_mid (by omega) (by omega)
  have u2' : wrap64 (hi + more) = hi + more := wrap_mid (by omega) (by omega)
  refine wp_region_later_tail 18 (by kernel_rfl) (by kernel_rfl) ?_; simp only [List.take_succ_cons, List.take_zero, List.drop_succ_cons, List.drop_zero]; have _hl := later_reads (W6); (repeat (go_big_quiet_step ((go_at_call 48; exact LaterW.calls (rg_any _ _ _))))); refine wpQuiet_nil ?_; intro W7 hw'; have hb_W7 := later_below hw'; clear hw' _hl
  clear u1 u2 u3 u1' u2' b0 b1 b2 b3 b4 b5
  simp only [goMin]
  have R7 : Below W1.heap.size W1 W7 := R6.trans (hb_W7.mono R6.size)
  have Q7 : Below W5.heap.size V5 W7 := Q6.trans (hb_W7.mono (by omega))
  have oA7 := oA6.later hb_W7 oA6.lt
  have oB7 := oB6.later hb_W7 oB6.lt
  have B127 := Box.below B12 hb_W7 l12
  have hup : (min 1000 (lo + more), min 1000 (hi + more)) = upBar x m more := by simp only [upBar, HLO.out]
  generalize min 1000 (lo + more) = e1 at hup ⊢
  generalize min 1000 (hi + more) = e2 at hup ⊢
  have HUP := Lib.hid hup
  clear hup oA6 oB6 B12 H12 R6 Q6 hb_W7
  have k1 := oA7.lo m hm6
  have k2 := oA7.hi m hm6
  have k3 := oA7.fz (m * 2)
  have k4 := oA7.fz (m * 2 + 1)
  have k5 := oA7.lt
  rw [HLO.out] at k1 k2
  simp only at k1 k2
  go_wp2_with fail
  generalize hW8 : (W7.setCell ⟨gA, m * 2, none⟩ (.int .i64 e1)).setCell ⟨gA, m * 2 + 1, none⟩ (.int .i64 e2) = W8
  have oA8 : OwnR W8 W5.heap.size gA cA (fun j => if j = m then upBar x m more else rgAt x.bars j) x.bars.length := by
    rw [← hW8]
    exact (oA7.set hm6 e1 e2).same HUP.out
  have oB8 : OwnR W8 W5.heap.size gB cB (rgAt x.bars) x.bars.length := by
    rw [← hW8]
    exact (oB7.far hAB _).far hAB _
  have R8 : Below W1.heap.size W1 W8 := by rw [← hW8]; exact (R7.setCell (by simp only []; omega) _).setCell (by simp only []; omega) _
  have Q8 : Below W5.heap.size V5 W8 := by rw [← hW8]; exact (Q7.setCell gA0 _).setCell gA0 _
  have B12' : Box W8 t12 33 #[.int .i64 lo, .int .i64 hi] := by rw [← hW8]; (refine Box.of_f ?_; repeat (first | ((with_reducible refine BoxF.done (by with_reducible assumption) ?_); rfl) | ((with_reducible refine BoxF.new ?_ ?_); (focus (first | omega | (simp only [World.size_alloc, World.size_setCell, World.size_drew, World.heap_drewN]; first | done | omega))); rfl) | ((with_reducible refine BoxF.alloc ?_ ?_); (focus (first | omega | (simp only [World.size_alloc, World.size_setCell, World.size_drew, World.heap_drewN]; first | done | omega)))) | (with_reducible refine BoxF.set ?_) | ((with_reducible refine BoxF.far ?_ ?_); ((try simp only []); omega)) | (with_reducible refine BoxF.drewN ?_) | (with_reducible refine BoxF.drew ?_) | ((with_reducible refine BoxF.below (by with_reducible assumption) ?_ ?_); (focus (first | omega | (simp only [World.size_alloc, World.size_setCell, World.size_drew, World.heap_drewN]; first | done | omega))))))
  clear hW8 oA7 oB7 R7 Q7 B127 k1 k2 k3 k4 k5
  have H12 := box_cells2 B12'
  have l12' := B12'.lt
  clear B12'
  obtain ⟨b0, b1⟩ := HB.out W8 Q8
  obtain ⟨b2, b3⟩ := H9.out W8 R8
  obtain ⟨b4, b5⟩ := H12.out W8 (Below.refl _ _)
  obtain ⟨b6, b7⟩ := H7.out W8 R8
  have r8 := R8.size
  have v3 : g11 < W8.heap.size := by have := oB8.lt; omega
  have v4 : t9 < W8.heap.size := by omega
  have v5 : t7 < W8.heap.size := by omega
  have u1 : IntKind.i64.wrap (lo - wa) = lo - wa := IntWalk.i64_in _ (by omega)
  have u2 : IntKind.i64.wrap (hi + wb) = hi + wb := IntWalk.i64_in _ (by omega)
  have u3 : IntKind.i64.wrap wa = wa := IntWalk.i64_in _ (by omega)
  have u4 : IntKind.i64.wrap wb = wb := IntWalk.i64_in _ (by omega)
  have u1' : wrap64 (lo - wa) = lo - wa := wrap_mid (by omega) (by omega)
  have u2' : wrap64 (hi + wb) = hi + wb := wrap_mid (by omega) (by omega)
  refine wp_region_later_tail 20 (by kernel_rfl) (by kernel_rfl) ?_; simp only [List.take_succ_cons, List.take_zero, List.drop_succ_cons, List.drop_zero]; have _hl := later_reads (W8); (repeat (go_big_quiet_step ((go_at_call 48; exact LaterW.calls (rg_any _ _ _))))); refine wpQuiet_nil ?_; intro W9 hw'; have hb_W9 := later_below hw'; clear hw' _hl
  clear u1 u2 u3 u4 u1' u2' b0 b1 b2 b3 b4 b5 b6 b7
  simp only [goMin, goMax]
  have R9 : Below W1.heap.size W1 W9 := R8.trans (hb_W9.mono R8.size)
  have Q9 : Below W5.heap.size V5 W9 := Q8.trans (hb_W9.mono (by have := oB8.lt; omega))
  have oA9 := oA8.later hb_W9 oA8.lt
  have oB9 := oB8.later hb_W9 oB8.lt
  have hout : (max 0 (lo - wa), min 1000 (hi + wb)) = outBar x m wa wb := by simp only [outBar, HLO.out]
  generalize max 0 (lo - wa) = e3 at hout ⊢
  generalize min 1000 (hi + wb) = e4 at hout ⊢
  have HOUT := Lib.hid hout
  clear hout oA8 oB8 H12 R8 Q8 hb_W9
  have k1 := oB9.lo m hm6
  have k2 := oB9.hi m hm6
  have k3 := oB9.fz (m * 2)
  have k4 := oB9.fz (m * 2 + 1)
  have k5 := oB9.lt
  rw [HLO.out] at k1 k2
  simp only at k1 k2
  -- the store, and the first call's operands
  have c0 : ((W9.setCell ⟨gB, m * 2, none⟩ (.int .i64 e3)).setCell ⟨gB, m * 2 + 1, none⟩ (.int .i64 e4)).heap.size = W9.heap.size := by simp [World.setCell]
  have Rt : Below W1.heap.size W1 ((W9.setCell ⟨gB, m * 2, none⟩ (.int .i64 e3)).setCell ⟨gB, m * 2 + 1, none⟩ (.int .i64 e4)) := (R9.setCell (by simp only []; omega) _).setCell (by simp only []; omega) _
  obtain ⟨b0, b1⟩ := H4.out _ Rt
  obtain ⟨b2, b3⟩ := H9.out _ Rt
  go_wp2_with fail
  generalize hV0 : (W9.setCell ⟨gB, m * 2, none⟩ (.int .i64 e3)).setCell ⟨gB, m * 2 + 1, none⟩ (.int .i64 e4) = V0
  have oA0 : OwnR V0 W5.heap.size gA cA (fun j => if j = m then upBar x m more else rgAt x.bars j) x.bars.length := by
    rw [← hV0]
    exact (oA9.far (Ne.symm hAB) _).far (Ne.symm hAB) _
  have oB0 : OwnR V0 W5.heap.size gB cB (fun j => if j = m then outBar x m wa wb else rgAt x.bars j) x.bars.length := by
    rw [← hV0]
    exact (oB9.set hm6 e3 e4).same HOUT.out
  have R0 : Below W1.heap.size W1 V0 := by rw [← hV0]; exact Rt
  have Q0 : Below W5.heap.size V5 V0 := by rw [← hV0]; exact (Q9.setCell gB0 _).setCell gB0 _
  have z0 : W5.heap.size ≤ V0.heap.size := by have := oA0.lt; omega
  clear hV0 oA9 oB9 R9 Q9 k1 k2 k3 k4 k5 c0 Rt b0 b1 b2 b3
  have hi0 : ∀ V, Below V0.heap.size V0 V → In V V.heap.size (some ⟨b, off, none⟩) As Ar cb cs cr x ways := fun V hV => HI1.out V (R0.trans (hV.mono R0.size))
  have hiA : ∀ V, Below V0.heap.size V0 V → In V V.heap.size (some ⟨gA, 0, none⟩) As Ar cA cs cr (setBar x m (upBar x m more)) ways := fun V hV => (HI1.out W1 (Below.refl _ _)).setBar (R0.trans (hV.mono R0.size)) (oA0.later hV oA0.lt)
  have hiB : ∀ V, Below V0.heap.size V0 V → In V V.heap.size (some ⟨gB, 0, none⟩) As Ar cB cs cr (setBar x m (outBar x m wa wb)) ways := fun V hV => (HI1.out W1 (Below.refl _ _)).setBar (R0.trans (hV.mono R0.size)) (oB0.later hV oB0.lt)
  have HI0 := Lib.hid hi0
  have HIA := Lib.hid hiA
  have HIB := Lib.hid hiB
  have OKA := Lib.hid (setBar_rec OK.out (upBar_hard OK.out hm0))
  have OKB := Lib.hid (setBar_rec OK.out (outBar_hard OK.out ha0 hc0))
  have F0 := Below.refl V0.heap.size V0
  clear hi0 hiA hiB
  refine Calls.mono (ranges_own (HI0.out V0 (Below.refl _ _)) OK.out) ?_
  rintro e w4 ⟨_, rfl, ⟨va, rfl, pa⟩, da⟩
  obtain ⟨Aa, ca, hva, ka1, ka2, ka3⟩ := rgs_at pa
  rw [rngsOf_len] at hva ka1 ka3
  obtain ⟨ba, oa, rfl, hba, ka4⟩ := ka3 (by omega)
  subst hva
  have ka5 : ∀ V, Below w4.heap.size w4 V → ∀ i, i ≤ x.steps.length → V.cell? ⟨ba, oa + i * 2, none⟩ = some (.int .i64 (rngN x m ways i).1) ∧ V.cell? ⟨ba, oa + i * 2 + 1, none⟩ = some (.int .i64 (rngN x m ways i).2) := fun V hV i hi => ka4 V hV i _ (rngsOf_at hi)
  have Ka := Lib.hid ka5
  have Ta : Below V0.heap.size V0 w4 := F0.trans (da.mono F0.size)
  have Da : Below W1.heap.size W1 w4 := R0.trans (Ta.mono R0.size)
  have Ea : Below W5.heap.size V5 w4 := Q0.trans (Ta.mono z0)
  clear ka4 ka5 ka3 pa
  obtain ⟨b0, b1⟩ := HA.out w4 Ea
  obtain ⟨b2, b3⟩ := H9.out w4 Da
  go_wp2_with fail
  refine Calls.mono (ranges_set (HIA.out w4 Ta) OKA.out) ?_
  rintro e w5 ⟨_, rfl, ⟨vb, rfl, pb⟩, db⟩
  obtain ⟨Ab, cb, hvb, kb1, kb2, kb3⟩ := rgs_at pb
  rw [rngsOf_set_len] at hvb kb1 kb3
  obtain ⟨bbb, obb, rfl, hbbb, kb4⟩ := kb3 (by omega)
  subst hvb
  have kb5 : ∀ V, Below w5.heap.size w5 V → ∀ i, i ≤ x.steps.length → V.cell? ⟨bbb, obb + i * 2, none⟩ = some (.int .i64 (rngN (setBar x m (upBar x m more)) m ways i).1) ∧ V.cell? ⟨bbb, obb + i * 2 + 1, none⟩ = some (.int .i64 (rngN (setBar x m (upBar x m more)) m ways i).2) := fun V hV i hi => kb4 V hV i _ (rngsOf_at hi)
  have Kb := Lib.hid kb5
  have Tb : Below V0.heap.size V0 w5 := Ta.trans (db.mono Ta.size)
  have Db : Below W1.heap.size W1 w5 := R0.trans (Tb.mono R0.size)
  have Eb : Below W5.heap.size V5 w5 := Q0.trans (Tb.mono z0)
  clear kb4 kb5 kb3 pb b0 b1 b2 b3
  obtain ⟨b0, b1⟩ := HB.out w5 Eb
  obtain ⟨b2, b3⟩ := H9.out w5 Db
  go_wp2_with fail
  refine Calls.mono (ranges_set (HIB.out w5 Tb) OKB.out) ?_
  rintro e w6 ⟨_, rfl, ⟨vc, rfl, pc⟩, dc⟩
  obtain ⟨Ac, cc, hvc, kc1, kc2, kc3⟩ := rgs_at pc
  rw [rngsOf_set_len] at hvc kc1 kc3
  obtain ⟨bc, oc, rfl, hbc, kc4⟩ := kc3 (by omega)
  subst hvc
  have kc5 : ∀ V, Below w6.heap.size w6 V → ∀ i, i ≤ x.steps.length → V.cell? ⟨bc, oc + i * 2, none⟩ = some (.int .i64 (rngN (setBar x m (outBar x m wa wb)) m ways i).1) ∧ V.cell? ⟨bc, oc + i * 2 + 1, none⟩ = some (.int .i64 (rngN (setBar x m (outBar x m wa wb)) m ways i).2) := fun V hV i hi => kc4 V hV i _ (rngsOf_at hi)
  have Kc := Lib.hid kc5
  have Tc : Below V0.heap.size V0 w6 := Tb.trans (dc.mono Tb.size)
  have Dc : Below W1.heap.size W1 w6 := R0.trans (Tc.mono R0.size)
  have Ec : Below W5.heap.size V5 w6 := Q0.trans (Tc.mono z0)
  clear kc4 kc5 kc3 pc b0 b1 b2 b3
  go_wp2_with fail
  have U4 : Below w4.heap.size w4 w6 := db.trans (dc.mono db.size)
  have x4 := U4.size
  have x5 := dc.size
  go_loopw [19] (fun i wr => ∃ k : Nat, k ≤ x.steps.length + 1 ∧ i = .int .i64 k ∧ Below w6.heap.size w6 wr) (fun i _ => x.steps.length + 1 - (intOf i).toNat)
  case atStart => exact ⟨0, by omega, rfl, Below.refl _ _⟩
  case round =>
    obtain ⟨k, hk, rfl, hb⟩ := hrel
    have yw := hb.size
    by_cases hlt : k ≤ x.steps.length
    · obtain ⟨f1, f2⟩ := Ka.out wr (U4.trans (hb.mono U4.size)) k hlt
      obtain ⟨f3, f4⟩ := Kb.out wr (dc.trans (hb.mono dc.size)) k hlt
      obtain ⟨f5, f6⟩ := Kc.out wr hb k hlt
      obtain ⟨h1, h2⟩ := up_rngs OK.out hm0 hlt
      obtain ⟨h3, h4⟩ := out_rngs OK.out ha0 hc0 hlt
      generalize (rngN x m ways k).1 = ra1 at f1 h1 h3
      generalize (rngN x m ways k).2 = ra2 at f2 h2 h4
      generalize (rngN (setBar x m (upBar x m more)) m ways k).1 = rb1 at f3 h1
      generalize (rngN (setBar x m (upBar x m more)) m ways k).2 = rb2 at f4 h2
      generalize (rngN (setBar x m (outBar x m wa wb)) m ways k).1 = rc1 at f5 h3
      generalize (rngN (setBar x m (outBar x m wa wb)) m ways k).2 = rc2 at f6 h4
      have t1 : decide (rb1 < ra1) = false := decide_eq_false (by omega)
      have t2 : decide (rb2 < ra2) = false := decide_eq_false (by omega)
      have t3 : decide (ra1 < rc1) = false := decide_eq_false (by omega)
      have t4 : decide (rc2 < ra2) = false := decide_eq_false (by omega)
      have p1 : ba < wr.heap.size := by omega
      have p2 : bbb < wr.heap.size := by omega
      have p3 : bc < wr.heap.size := by omega
      have q1 : (k : Int) < (x.steps.length : Int) + 1 := by omega
      clear h1 h2 h3 h4
      go_wp2_with fail
      refine wp_region_later (by kernel_rfl) (by kernel_rfl) ?_; have _hl := later_reads (wr); (repeat (go_big_quiet_step (fail))); refine wpQuiet_nil ?_; intro w7 hw'; have hb_w7 := later_below hw'; clear hw' _hl
      go_wp2_with fail
      go_roundw
      case rel => exact ⟨k + 1, by omega, by go_num, hb.trans (hb_w7.mono hb.size)⟩
      case measure => simp [intOf]; omega
    · obtain rfl : k = x.steps.length + 1 := by omega
      go_wp2_with (go_at_call 16; refine (works_any _).mono ?_; rintro e' w12 ⟨rfl, hb12⟩)
      go_ret
      exact ⟨rfl, hW1.trans ((Dc.trans (hb.mono Dc.size)).mono hW1.size |>.trans (hb12.mono (by have := hW1.size; have := Dc.size; have := hb.size; omega)))⟩
end Go.Proofs.Ytigpefjeelgfdaa

/-
  The last step of a law's row, from 'what was there is as it was' alone.
-/
namespace Go.Proofs.Ytigpefjeelgfdaa
open Go.ChangeShapes Go.WideShapes Go.ChangeAt Go.RowKit

/-- A law that takes no package variable: it answers, what was there is as it was, and the arguments read as they did. -/
theorem post_later {H : Type} {enc : TypeId × Value → H} {P : Program} {f : Func} {s : ChangeSpec} {apart fresh handsOn again : Bool} {W W' : World} {args : Array Value} {v : Value} {ds gs : List (DataW H)} {before pa pv : List MemPlace}
    (hW : DataW.Whole enc P f.params.toList s.vars apart W args.toList ds gs before) (hsplit : before = pa ++ pv)
    (hr : ∀ (b : Nat) (sp : Nat → Bool) (hd : Bool), DataW.TrodAll enc P W' b sp hd f.resultTypes.toList (v.resultList f.resultTypes.size) (s.fn H (ds ++ gs)).results [])
    (ha : ∀ sp : Nat → Bool, (∀ p ∈ before, sp p.block = true) → DataW.TrodAll enc P W' 0 sp true f.params.toList args.toList (s.fn H (ds ++ gs)).args pa)
    (hv : ∀ sp : Nat → Bool, (∀ p ∈ before, sp p.block = true) → DataW.TrodVars enc P W' sp s.vars (s.fn H (ds ++ gs)).vars pv)
    (hk : ∀ (j : Nat) (t : TypeId) (r : Value), f.resultTypes[j]? = some t → (v.resultList f.resultTypes.size)[j]? = some r → Value.okWide P W' .any 0 t r)
    (hb : Below W.heap.size W W') : s.post enc P f apart fresh handsOn again W args v W' := by
  have inside : ∀ p, p ∈ before → p.block < W.heap.size := fun p hp => hW.lt p hp
  have keep : ∀ p ∈ before, (decide ((p : MemPlace).block < W.heap.size)) = true := fun p hp => decide_eq_true (inside p hp)
  refine ⟨ds, gs, before, [], pa, pv, hW, hr _ _ _, ha (fun b => decide (b < W.heap.size)) keep, hv (fun b => decide (b < W.heap.size)) keep, ?_, ?_⟩
  · refine World.keptBut_mono (fun p hp => ⟨hp, ?_⟩) (hb.frame (· ∈ before))
    right
    rw [hsplit, List.mem_append] at hp
    exact hp
  · intro _
    obtain ⟨_, _, _, _, _, hz, hn⟩ := hW
    have e : [] ++ pa ++ pv = before := by rw [hsplit, List.nil_append]
    refine ⟨hk, _, _, [] ++ pa ++ pv, ⟨[] ++ pa, pv, trodAll_append (ha _ fun _ _ => rfl) (hr _ _ _), hv _ fun _ _ => rfl, rfl, fun b off hp => ?_, fun h => ?_⟩, fun p hp _ => ?_⟩
    · rw [e] at hp
      rw [hb.frozen (inside _ hp)]
      exact hz b off hp
    · have := hn h
      rw [← e] at this
      simpa using this
    · rw [e] at hp
      simpa using hp
end Go.Proofs.Ytigpefjeelgfdaa

/-
  What came in, as the words of these texts have it: slices, structs, works, recipes; and that it reads again behind a call that leaves it alone.
-/
namespace Go.Proofs.Ytigpefjeelgfdaa
open Go.ChangeShapes Go.WideShapes Go.ChangeAt Go.RowKit Go.Deep

section
variable {H : Type} {enc : TypeId × Value → H} {P : Program} {w : World}

theorem list_of {α : Type} {R : Nat → α → Prop} : ∀ (n : Nat), (∀ i, i < n → ∃ x, R i x) → ∃ l : List α, l.length = n ∧ ∀ i x, l[i]? = some x → R i x
  | 0, _ => ⟨[], rfl, fun i x h => by simp at h⟩
  | n + 1, h => by
    obtain ⟨l, hl, hx⟩ := list_of n fun i hi => h i (by omega)
    obtain ⟨y, hy⟩ := h n (by omega)
    refine ⟨l ++ [y], by simp [hl], fun i x hi => ?_⟩
    rcases Nat.lt_or_ge i n with h1 | h1
    · rw [List.getElem?_append_left (by omega)] at hi
      exact hx i x hi
    · rw [List.getElem?_append_right (by omega)] at hi
      have : i = n := by
        have := (List.getElem?_eq_some_iff.1 hi).1
        simp at this
        omega
      subst this
      simp [hl] at hi
      subst hi
      exact hy

/-- An element that is read off cells. -/
def ElemOf (enc : TypeId × Value → H) (P : Program) (w : World) {α : Type} (R : World → Nat → Nat → α → Prop) (size : Nat) (e : TypeId) : Prop :=
  ∀ (b off : Nat) (cs : List Value) (n : Nat) (x : DataW H × List MemPlace), b < w.heap.size → cs.length = size → (∀ j u, cs[j]? = some u → w.cell? ⟨b, off + j, none⟩ = some u) → DataW.trod enc P w 0 (fun _ => true) true n e cs = some x → ∃ y, R w b off y

theorem open_sl {α : Type} {R : World → Nat → Nat → α → Prop} {size : Nat} {t e : TypeId} {fuel : Nat} {cs : List Value} {x : DataW H × List MemPlace} (ht : P.underlying t = some (.slice e)) (hc : P.cellsOf e = size) (h0 : 0 < size)
    (he : ElemOf enc P w R size e) (h : DataW.trod enc P w 0 (fun _ => true) true fuel t cs = some x) : ∃ v l, cs = [v] ∧ SL R size w w.heap.size v l := by
  rcases open_slice ht h with ⟨h1, _⟩ | ⟨a, len, cap, m, n, D, Pl, hcs, hb, hl, hmx, hm, hx, hel⟩
  · exact ⟨_, [], h1, SL.nil _ _ _ _⟩
  · have hmc : m = cap := by simpa using hm
    obtain ⟨b, off, spot⟩ := a
    have cell : ∀ i, i < m → ∃ cs', cs'.length = size ∧ (∀ j u, cs'[j]? = some u → w.cell? (Addr.add ⟨b, off, spot⟩ (i * size + j)) = some u) ∧ DataW.trod enc P w 0 (fun _ => true) true n e cs' = some (D i, Pl i) := by
      intro i hi
      obtain ⟨cs', h1, h2⟩ := hel i hi
      rw [hc] at h1
      obtain ⟨_, hlen, hat⟩ := World.cells?_some h1
      refine ⟨cs', hlen, fun j u hj => ?_, h2⟩
      have hjl : j < size := by rw [← hlen]; exact (List.getElem?_eq_some_iff.1 hj).1
      rw [← Go.Deep.add_add, hat j hjl, hj]
    have spot0 : 0 < m → spot = none := fun hm0 => by
      obtain ⟨cs', h1, h2, _⟩ := cell 0 hm0
      have h3 : cs'[0]? = some (cs'[0]'(by omega)) := List.getElem?_eq_getElem (by omega)
      have := World.cell?_spot (h2 0 _ h3)
      simpa [Addr.add] using this
    by_cases hm0 : len = 0
    · subst hm0
      exact ⟨_, [], hcs, some ⟨b, off, spot⟩, cap, rfl, by simp, by unfold maxLen at hmx; omega, fun h => absurd h (by simp)⟩
    have hsp := spot0 (by omega)
    subst hsp
    have hb2 : b < w.heap.size := by
      obtain ⟨cs', h1, h2, _⟩ := cell 0 (by omega)
      have h3 : cs'[0]? = some (cs'[0]'(by omega)) := List.getElem?_eq_getElem (by omega)
      have h4 := World.block_lt_of_cell? w _ (h2 0 _ h3)
      simpa [Addr.add] using h4
    obtain ⟨l, hll, hlx⟩ := list_of (R := fun i y => R w b (off + i * size) y) len fun i hi => by
      obtain ⟨cs', h1, h2, h3⟩ := cell i (by omega)
      refine he b (off + i * size) cs' n _ hb2 h1 (fun j u hj => ?_) h3
      have := h2 j u hj
      by_cases e0 : i * size + j = 0
      · rw [e0] at this
        have e1 : off + i * size + j = off := by omega
        rw [e1]
        simpa [Addr.add] using this
      · simp only [Addr.add, if_neg e0] at this
        rwa [Nat.add_assoc]
    exact ⟨_, l, hcs, some ⟨b, off, none⟩, cap, by rw [hll], by omega, by unfold maxLen at hmx; omega, fun _ => ⟨b, off, rfl, hb2, hlx⟩⟩

theorem elem_int {k : IntKind} {e : TypeId} (he : P.underlying e = some (.int k)) : ElemOf enc P w (IntAt k) 1 e := by
  intro b off cs n x hb hl hat h
  obtain ⟨m, rfl, _⟩ := DataW.trod_int he h
  exact ⟨m, hat 0 _ rfl⟩
theorem elem_range {e ti : TypeId} {f0 f1 : Field} (he : P.underlying e = some (.struct #[f0, f1])) (h0 : f0.type = ti) (h1 : f1.type = ti) (o0 : f0.offset = 0) (o1 : f1.offset = 1) (hi : P.underlying ti = some (.int .i64)) (hc : P.cellsOf ti = 1) : ElemOf enc P w RgAt 2 e := by
  intro b off cs n x hb hl hat h
  obtain ⟨y0, y1, m, _, _, g0, g1⟩ := trod_struct2 he h
  rw [h0, hc, o0] at g0
  rw [h1, hc, o1] at g1
  match cs, hl with
  | [u, v], _ =>
    obtain ⟨n0, e0, _⟩ := DataW.trod_int hi g0
    obtain ⟨n1, e1, _⟩ := DataW.trod_int hi g1
    simp at e0 e1
    subst e0
    subst e1
    exact ⟨(n0, n1), hat 0 _ rfl, hat 1 _ rfl⟩
theorem elem_kink {e ti tr : TypeId} {f0 f1 g0 g1 : Field} (he : P.underlying e = some (.struct #[f0, f1])) (hr : P.underlying tr = some (.struct #[g0, g1])) (h0 : f0.type = ti) (h1 : f1.type = tr) (o0 : f0.offset = 0) (o1 : f1.offset = 1)
    (k0 : g0.type = ti) (k1 : g1.type = ti) (p0 : g0.offset = 0) (p1 : g1.offset = 1) (hi : P.underlying ti = some (.int .i64)) (hc : P.cellsOf ti = 1) (hcr : P.cellsOf tr = 2) : ElemOf enc P w KinkAt 3 e := by
  intro b off cs n x hb hl hat h
  obtain ⟨y0, y1, m, _, _, q0, q1⟩ := trod_struct2 he h
  rw [h0, hc, o0] at q0
  rw [h1, hcr, o1] at q1
  obtain ⟨z0, z1, m1, _, _, r0, r1⟩ := trod_struct2 hr q1
  rw [k0, hc, p0] at r0
  rw [k1, hc, p1] at r1
  match cs, hl with
  | [u, v, t], _ =>
    obtain ⟨n0, e0, _⟩ := DataW.trod_int hi q0
    obtain ⟨n1, e1, _⟩ := DataW.trod_int hi r0
    obtain ⟨n2, e2, _⟩ := DataW.trod_int hi r1
    simp at e0 e1 e2
    subst e0
    subst e1
    subst e2
    exact ⟨⟨n0, n1, n2⟩, hat 0 _ rfl, hat 1 _ rfl, hat 2 _ rfl⟩
/-- A struct whose only field is a slice. -/
theorem elem_box {α : Type} {R : World → Nat → Nat → α → Prop} {size : Nat} {e ts te : TypeId} {f0 : Field} (he : P.underlying e = some (.struct #[f0])) (h0 : f0.type = ts) (o0 : f0.offset = 0) (hs : P.underlying ts = some (.slice te)) (hcs : P.cellsOf ts = 1) (hc : P.cellsOf te = size) (hz : 0 < size)
    (hel : ElemOf enc P w R size te) : ElemOf enc P w (fun w b off l => ∃ v, w.cell? ⟨b, off, none⟩ = some v ∧ SL R size w w.heap.size v l) 1 e := by
  intro b off cs n x hb hl hat h
  obtain ⟨y0, m, _, _, q0⟩ := trod_struct1 he h
  rw [h0, hcs, o0] at q0
  match cs, hl with
  | [u], _ =>
    obtain ⟨v, l, hv, hsl⟩ := open_sl hs hc hz hel q0
    simp at hv
    subst hv
    exact ⟨l, u, hat 0 _ rfl, hsl⟩

/-- What came in reads again, where all that was there is as it was. -/
theorem args_later {W W' : World} {T : TypeId → Prop} (K : Kids P T) (hz : ∀ t e, T t → P.underlying t = some (.slice e) → 0 < P.cellsOf e) {ts : List TypeId} {vs : List Value} {ds : List (DataW H)} {ps : List MemPlace}
    (hT : ∀ t ∈ ts, T t) (h : DataW.TrodAll enc P W 0 (fun _ => true) true ts vs ds ps) (hb : Below W.heap.size W W') {sp : Nat → Bool} (hs : ∀ p ∈ ps, sp p.block = true) : DataW.TrodAll enc P W' 0 sp true ts vs ds ps := by
  have carry : ∀ {ts : List TypeId} {vs : List Value} {ds : List (DataW H)} {ps : List MemPlace}, DataW.TrodAll enc P W 0 (fun _ => true) true ts vs ds ps → DataW.TrodAll enc P W' 0 (fun _ => true) true ts vs ds ps := by
    intro ts
    induction ts with
    | nil =>
      intro vs ds ps h
      obtain ⟨rfl, rfl, rfl⟩ := trodAll_nil h
      rfl
    | cons t ts ih =>
      intro vs ds ps h
      obtain ⟨v, vs1, d, ds1, a, b, rfl, rfl, rfl, ⟨n, h1⟩, h2⟩ := trodAll_cons h
      refine ⟨a, b, ⟨n, DataW.trod_carry n _ _ _ h1 fun p hp => ?_⟩, ih h2, rfl⟩
      have hlt := DataW.trod_lt n _ _ _ h1 p hp
      cases p with
      | cell bl off => exact hb.cell (p := ⟨bl, off, none⟩) hlt
      | map bl => exact hb.block bl hlt
  exact (carry h).respare K hz hT hs
end
end Go.Proofs.Ytigpefjeelgfdaa

/-
  What came in, at the types of layer 1's statements.
-/
namespace Go.Proofs.Ytigpefjeelgfdaa
open Go.ChangeShapes Go.WideShapes Go.ChangeAt Go.RowKit Go.Deep

theorem kids : Kids Try.prog (· < Try.prog.types.size) := kids_rows (by kernel_rfl) (by kernel_rfl)
theorem full : ∀ t e, t < Try.prog.types.size → Try.prog.underlying t = some (.slice e) → 0 < Try.prog.cellsOf e := slices_full_of Try.prog (by kernel_rfl)

theorem list_two {l : List Value} (h : l.toArray.size = 2) : ∃ a b, l = [a, b] := by
  rcases l with _ | ⟨a, _ | ⟨b, _ | ⟨c, l⟩⟩⟩
  · simp at h
  · simp at h
  · exact ⟨a, b, rfl⟩
  · simp at h
theorem list_one {l : List Value} (h : l.toArray.size = 1) : ∃ a, l = [a] := by
  rcases l with _ | ⟨a, _ | ⟨b, l⟩⟩
  · simp at h
  · exact ⟨a, rfl⟩
  · simp at h
theorem one_eq {u v : Value} (h : [u] = [v]) : u = v := by simpa using h
section
variable {H : Type} {enc : TypeId × Value → H} {w : World}
theorem el_i64 : ElemOf enc Try.prog w (IntAt .i64) 1 (2 : Nat) := elem_int Try.underlying2
theorem el_int : ElemOf enc Try.prog w (IntAt .i64) 1 (3 : Nat) := elem_int Try.underlying3
theorem el_range : ElemOf enc Try.prog w RgAt 2 (33 : Nat) := elem_range Try.underlying33 rfl rfl rfl rfl Try.underlying2 (by kernel_rfl)
theorem el_kink : ElemOf enc Try.prog w KinkAt 3 (93 : Nat) := elem_kink Try.underlying93 Try.underlying33 rfl rfl rfl rfl rfl rfl rfl rfl Try.underlying2 (by kernel_rfl) (by kernel_rfl)
theorem el_way : ElemOf enc Try.prog w (fun w b off l => ∃ v, w.cell? ⟨b, off, none⟩ = some v ∧ SL KinkAt 3 w w.heap.size v l) 1 (28 : Nat) :=
  elem_box Try.underlying28 rfl rfl Try.underlying26 (by kernel_rfl) (by kernel_rfl) (by decide) el_kink
theorem el_step : ElemOf enc Try.prog w (fun w b off l => ∃ v, w.cell? ⟨b, off, none⟩ = some v ∧ SL (fun w b off l => ∃ v, w.cell? ⟨b, off, none⟩ = some v ∧ SL KinkAt 3 w w.heap.size v l) 1 w w.heap.size v l) 1 (88 : Nat) :=
  elem_box Try.underlying88 rfl rfl Try.underlying86 (by kernel_rfl) (by kernel_rfl) (by decide) el_way

set_option maxRecDepth 100000 in
theorem open_works {base : Nat} {v : Value} {d : DataW H} {p : List MemPlace} (hv : Value.okWide Try.prog w .any base (25 : Nat) v) (h : DataW.Trod enc Try.prog w 0 (fun _ => true) true (25 : Nat) v d p) :
    ∃ (Ab As : Option Addr) (cb cs : Nat) (x : Works), v = .agg #[.slice Ab x.bars.length cb, .slice As x.steps.length cs] ∧ In w w.heap.size Ab As none cb cs 0 x [] := by
  obtain ⟨⟨l⟩, rfl, hsz⟩ := okWide_struct Try.underlying25 hv
  obtain ⟨fuel, hf⟩ := h
  obtain ⟨y0, y1, n, _, _, g0, g1⟩ := trod_struct2 Try.underlying25 hf
  have hc : Try.prog.cellsOf (25 : Nat) = 2 := by kernel_rfl
  rw [hc] at hsz
  obtain ⟨u0, u1, rfl⟩ := list_two hsz
  obtain ⟨v0, bars, e0, A0, c0, k0, k1, k2, s0⟩ := open_sl Try.underlying22 (by kernel_rfl) (by decide) el_range g0
  obtain ⟨v1, steps, e1, A1, c1, j0, j1, j2, s1⟩ := open_sl Try.underlying23 (by kernel_rfl) (by decide) el_step g1
  have q0 : u0 = v0 := one_eq e0
  have q1 : u1 = v1 := one_eq e1
  subst q0
  subst q1
  subst k0
  subst j0
  exact ⟨A0, A1, c0, c1, ⟨bars, steps⟩, rfl, ⟨s0, s1, fun h => absurd h (by simp), k1, k2, j1, j2, by simp, by omega, Nat.le_refl _⟩⟩
set_option maxRecDepth 100000 in
theorem open_way {base : Nat} {v : Value} {d : DataW H} {p : List MemPlace} (hv : Value.okWide Try.prog w .any base (28 : Nat) v) (h : DataW.Trod enc Try.prog w 0 (fun _ => true) true (28 : Nat) v d p) :
    ∃ (A : Option Addr) (c : Nat) (ks : List Kink), v = .agg #[.slice A ks.length c] ∧ KinksA w w.heap.size A ks ∧ ks.length ≤ c ∧ c ≤ 9223372036854775807 := by
  obtain ⟨⟨l⟩, rfl, hsz⟩ := okWide_struct Try.underlying28 hv
  obtain ⟨fuel, hf⟩ := h
  obtain ⟨y0, n, _, _, g0⟩ := trod_struct1 Try.underlying28 hf
  have hc : Try.prog.cellsOf (28 : Nat) = 1 := by kernel_rfl
  rw [hc] at hsz
  obtain ⟨u0, rfl⟩ := list_one hsz
  obtain ⟨v0, ks, e0, A0, c0, k0, k1, k2, s0⟩ := open_sl Try.underlying26 (by kernel_rfl) (by decide) el_kink g0
  have q0 : u0 = v0 := one_eq e0
  subst q0
  subst k0
  exact ⟨A0, c0, ks, rfl, s0, k1, k2⟩
set_option maxRecDepth 100000 in
theorem open_recipe {base : Nat} {v : Value} {d : DataW H} {p : List MemPlace} (hv : Value.okWide Try.prog w .any base (42 : Nat) v) (h : DataW.Trod enc Try.prog w 0 (fun _ => true) true (42 : Nat) v d p) :
    ∃ (bar : Int) (A : Option Addr) (c : Nat) (ways : List Int), v = .agg #[.int .i64 bar, .slice A ways.length c] ∧ IntsA .i64 w w.heap.size A ways ∧ ways.length ≤ c ∧ c ≤ 9223372036854775807 := by
  obtain ⟨⟨l⟩, rfl, hsz⟩ := okWide_struct Try.underlying42 hv
  obtain ⟨fuel, hf⟩ := h
  obtain ⟨y0, y1, n, _, _, g0, g1⟩ := trod_struct2 Try.underlying42 hf
  have hc : Try.prog.cellsOf (42 : Nat) = 2 := by kernel_rfl
  rw [hc] at hsz
  obtain ⟨u0, u1, rfl⟩ := list_two hsz
  obtain ⟨bar, e0, _⟩ := DataW.trod_int Try.underlying3 g0
  obtain ⟨v1, ways, e1, A1, c1, j0, j1, j2, s1⟩ := open_sl Try.underlying40 (by kernel_rfl) (by decide) el_int g1
  have q0 : u0 = .int .i64 bar := one_eq e0
  have q1 : u1 = v1 := one_eq e1
  subst q0
  subst q1
  subst j0
  exact ⟨bar, A1, c1, ways, rfl, s1, j1, j2⟩
set_option maxRecDepth 100000 in
theorem open_measured {base : Nat} {v : Value} {d : DataW H} {p : List MemPlace} (hv : Value.okWide Try.prog w .any base (33 : Nat) v) (h : DataW.Trod enc Try.prog w 0 (fun _ => true) true (33 : Nat) v d p) :
    ∃ lo hi : Int, v = .agg #[.int .i64 lo, .int .i64 hi] := by
  obtain ⟨⟨l⟩, rfl, hsz⟩ := okWide_struct Try.underlying33 hv
  obtain ⟨fuel, hf⟩ := h
  obtain ⟨y0, y1, n, _, _, g0, g1⟩ := trod_struct2 Try.underlying33 hf
  have hc : Try.prog.cellsOf (33 : Nat) = 2 := by kernel_rfl
  rw [hc] at hsz
  obtain ⟨u0, u1, rfl⟩ := list_two hsz
  obtain ⟨lo, e0, _⟩ := DataW.trod_int Try.underlying2 g0
  obtain ⟨hi, e1, _⟩ := DataW.trod_int Try.underlying2 g1
  have q0 : u0 = .int .i64 lo := one_eq e0
  have q1 : u1 = .int .i64 hi := one_eq e1
  subst q0
  subst q1
  exact ⟨lo, hi, rfl⟩
set_option maxRecDepth 100000 in
theorem open_int {base : Nat} {t : TypeId} {k : IntKind} {v : Value} {d : DataW H} {p : List MemPlace} (ht : Try.prog.underlying t = some (.int k)) (hv : Value.okWide Try.prog w .any base t v) (h : DataW.Trod enc Try.prog w 0 (fun _ => true) true t v d p) :
    ∃ n : Int, v = .int k n ∧ (Lit.int k n).wf = true := by
  obtain ⟨n, rfl⟩ := okWide_int ht hv
  obtain ⟨fuel, hf⟩ := h
  obtain ⟨m, e, _, hw⟩ := DataW.trod_int ht hf
  have e2 : Value.int k n = .int k m := one_eq e
  obtain rfl : n = m := by simpa using e2
  exact ⟨n, rfl, hw⟩
set_option maxRecDepth 100000 in
theorem open_list {k : IntKind} {t e : TypeId} {base : Nat} {v : Value} {d : DataW H} {p : List MemPlace} (ht : Try.prog.underlying t = some (.slice e)) (hc : Try.prog.cellsOf e = 1) (he : Try.prog.underlying e = some (.int k)) (hv : Value.okWide Try.prog w .any base t v) (h : DataW.Trod enc Try.prog w 0 (fun _ => true) true t v d p) :
    ∃ (A : Option Addr) (c : Nat) (l : List Int), v = .slice A l.length c ∧ IntsA k w w.heap.size A l ∧ l.length ≤ c ∧ c ≤ 9223372036854775807 := by
  obtain ⟨a, n, c, rfl⟩ := okWide_slice ht hv
  obtain ⟨fuel, hf⟩ := h
  obtain ⟨v1, l, e1, A1, c1, j0, j1, j2, s1⟩ := open_sl ht hc (by decide) (elem_int he) hf
  have q1 : Value.slice a n c = v1 := one_eq e1
  subst q1
  rw [j0]
  exact ⟨A1, c1, l, rfl, s1, j1, j2⟩
end
end Go.Proofs.Ytigpefjeelgfdaa

/-
  What came in: numbers that fit their kind.
-/
namespace Go.Proofs.Ytigpefjeelgfdaa
open Go.ChangeShapes Go.WideShapes Go.ChangeAt Go.RowKit Go.Deep

theorem u16_bounds {n : Int} (h : (Lit.int .u16 n).wf = true) : 0 ≤ n ∧ n ≤ 65535 := by
  simp only [Lit.wf, Bool.and_eq_true, decide_eq_true_eq] at h
  have e1 : IntKind.u16.min = 0 := by decide
  have e2 : IntKind.u16.max = 65535 := by decide
  omega
section
variable {H : Type} {enc : TypeId × Value → H} {w : World}
theorem elem_intW {P : Program} {k : IntKind} {e : TypeId} (he : P.underlying e = some (.int k)) : ElemOf enc P w (IntW k) 1 e := by
  intro b off cs n x hb hl hat h
  obtain ⟨m, rfl, _, hw⟩ := DataW.trod_int he h
  exact ⟨m, hat 0 _ rfl, hw⟩
set_option maxRecDepth 100000 in
theorem open_listW {k : IntKind} {t e : TypeId} {base : Nat} {v : Value} {d : DataW H} {p : List MemPlace} (ht : Try.prog.underlying t = some (.slice e)) (hc : Try.prog.cellsOf e = 1) (he : Try.prog.underlying e = some (.int k)) (hv : Value.okWide Try.prog w .any base t v) (h : DataW.Trod enc Try.prog w 0 (fun _ => true) true t v d p) :
    ∃ (A : Option Addr) (c : Nat) (l : List Int), v = .slice A l.length c ∧ IntsW k w w.heap.size A l ∧ l.length ≤ c ∧ c ≤ 9223372036854775807 := by
  obtain ⟨a, n, c, rfl⟩ := okWide_slice ht hv
  obtain ⟨fuel, hf⟩ := h
  obtain ⟨v1, l, e1, A1, c1, j0, j1, j2, s1⟩ := open_sl ht hc (by decide) (elem_intW he) hf
  have q1 : Value.slice a n c = v1 := one_eq e1
  subst q1
  rw [j0]
  exact ⟨A1, c1, l, rfl, s1, j1, j2⟩
end
end Go.Proofs.Ytigpefjeelgfdaa

/-
  Arguments: an array of two whole numbers.
-/
namespace Go.Proofs.Ytigpefjeelgfdaa
open Go.ChangeShapes Go.WideShapes Go.ChangeAt Go.RowKit
section
variable {H : Type} {enc : TypeId × Value → H} {w : World}
set_option maxRecDepth 100000 in
theorem open_two {k : IntKind} {t e : TypeId} {base : Nat} {v : Value} {d : DataW H} {p : List MemPlace} (ht : Try.prog.underlying t = some (.array 2 e)) (hct : Try.prog.cellsOf t = 2) (hc : Try.prog.cellsOf e = 1) (he : Try.prog.underlying e = some (.int k)) (hv : Value.okWide Try.prog w .any base t v) (h : DataW.Trod enc Try.prog w 0 (fun _ => true) true t v d p) :
    ∃ a b : Int, v = .agg #[.int k a, .int k b] ∧ (Lit.int k a).wf = true ∧ (Lit.int k b).wf = true := by
  simp only [Value.okWide, ht] at hv
  obtain ⟨⟨l⟩, rfl, hsz, _⟩ := hv
  rw [hct] at hsz
  obtain ⟨u0, u1, rfl⟩ := list_two hsz
  obtain ⟨fuel, hf⟩ := h
  obtain ⟨xs, m, _, _, _, hl, hg⟩ := DataW.trod_array ht hf
  have g0 := hg 0 (by omega)
  have g1 := hg 1 (by omega)
  rw [List.getElem?_eq_getElem (by omega)] at g0 g1
  rw [hc] at g0 g1
  obtain ⟨a, e0, w0⟩ := DataW.trod_int he g0
  obtain ⟨b, e1, w1⟩ := DataW.trod_int he g1
  have q0 : u0 = .int k a := one_eq e0
  have q1 : u1 = .int k b := one_eq e1
  subst q0
  subst q1
  exact ⟨a, b, rfl, w0.2, w1.2⟩
end
end Go.Proofs.Ytigpefjeelgfdaa

namespace Go.Proofs.Ytigpefjeelgfdaa.heatHarder
open Go.ChangeShapes Go.WideShapes Go.ChangeAt Go.RowKit

theorem own : ownKnob Try.prog.godebug = none := by kernel_rfl
theorem rowed : ∀ t ∈ Try.f11.params.toList, t < Try.prog.types.size := of_decide_eq_true (by kernel_rfl)

set_option maxRecDepth 100000 in
set_option maxHeartbeats 1000000 in
theorem lifted (os : Os) (started : os.Started) (H : Type) (enc : TypeId × Value → H) :
    ReturnsInHanded {} Try.checked os 11 .any (Rows.heatHarderSpec.pre6 enc Try.prog Try.f11 Rows.heatHarderRow.domain false) (Rows.heatHarderSpec.post enc Try.prog Try.f11 false true false false) := by
  refine returnsInHanded_of_change (C := Try.checked) own started (by kernel_rfl) Try.func11
    (ChangeSpec.witness6 (enc := enc) (C := Try.checked) false ⟨#[], #[.agg #[.slice none 0 0, .slice none 0 0], .slice none 0 0, .int .u16 0, .agg #[.int .u16 0, .int .u16 0]], []⟩ 8 (by kernel_rfl) (by kernel_rfl) (by kernel_rfl) (by kernel_rfl)) ?_
  intro W base args ds gs before hval0 hW hcnd _
  have hval : ∀ (j : Nat) t v, Try.f11.params[j]? = some t → args[j]? = some v → Value.okWide Try.prog W .any base t v := hval0
  have hW' := hW
  obtain ⟨p, q, hA0, hV, rfl, hfz, hnd⟩ := hW
  have hA : DataW.TrodAll enc Try.prog W 0 (fun _ => true) true Try.f11.params.toList args.toList ds p := hA0
  have hAk := hA
  rw [Try.params11] at hA hval
  obtain ⟨v0, vs0, d0, ds0, a0, b0, e0, f0, rfl, h0, t0⟩ := trodAll_cons hA
  obtain ⟨v1, vs1, d1, ds1, a1, b1, e1, f1, rfl, h1, t1⟩ := trodAll_cons t0
  obtain ⟨v2, vs2, d2, ds2, a2, b2, e2, f2, rfl, h2, t2⟩ := trodAll_cons t1
  obtain ⟨v3, vs3, d3, ds3, a3, b3, e3, f3, rfl, h3, t3⟩ := trodAll_cons t2
  obtain ⟨en, fn, rfl⟩ := trodAll_nil t3
  subst en
  subst fn
  subst e3
  subst f3
  subst e2
  subst f2
  subst e1
  subst f1
  subst f0
  have ea : args = #[v0, v1, v2, v3] := by rw [← Array.toList_inj]; exact e0
  subst ea
  clear e0
  obtain ⟨rfl, rfl⟩ := trodVars_none hV
  clear hA0 hval0 hA
  simp only [List.append_nil] at hW' hAk
  have o0 := hval 0 _ _ rfl rfl
  have o1 := hval 1 _ _ rfl rfl
  have o2 := hval 2 _ _ rfl rfl
  have o3 := hval 3 _ _ rfl rfl
  clear hval
  obtain ⟨Ab, As, cb, cs, x, rfl, hin⟩ := open_works o0 h0
  obtain ⟨Ay, cy, recs, rfl, hy, hy1, hy2⟩ := open_listW Try.underlying66 (by kernel_rfl) Try.underlying5 o1 h1
  obtain ⟨more, rfl, hwf⟩ := open_int Try.underlying68 o2 h2
  obtain ⟨wa, wb, rfl, wf1, wf2⟩ := open_two Try.underlying80 (by kernel_rfl) (by kernel_rfl) Try.underlying68 o3 h3
  have hd := u16_bounds hwf
  have h1 := u16_bounds wf1
  have h2 := u16_bounds wf2
  refine Calls.mono (harderLaw_any Ab As Ay cb cs cy x recs more wa wb W.heap.size W hin hy hy1 hy2 hd.1 hd.2 h1.1 h1.2 h2.1 h2.2) fun e W' ⟨he, hb⟩ => ?_
  subst he
  exact ⟨_, rfl, post_later (pv := []) hW' (List.append_nil _).symm (fun _ _ _ => (trodAll_cons_mk (shut_bool Try.underlying4 _) trodAll_mk0))
    (fun sp hsp => args_later kids full rowed hAk hb hsp) (fun _ _ => rfl) (ok_one (by kernel_rfl) rfl (okWide_bool_mk Try.underlying4 _)) hb⟩

theorem over : Rows.heatHarderRow.holds Try.pinned (OpenSpec.ofChange Rows.heatHarderSpec) :=
  OpenClaim.holds_of_wide 11 Try.f11 rfl rfl rfl rfl rfl rfl rfl ⟨rfl, rfl, rfl, rfl, rfl⟩ rfl rfl rfl rfl rfl (by kernel_rfl) Try.func11 (by kernel_rfl)
    (of_decide_eq_true (by kernel_rfl)) (by unfold Func.isWrapper; first | (rw [if_pos (by decide +kernel)]; kernel_rfl) | (rw [if_neg (by decide +kernel)]; exact ⟨rfl, rfl⟩))
    (fun os started H enc _ => lifted os started H enc)

theorem proved : Rows.HeatHarderSaid := over
end Go.Proofs.Ytigpefjeelgfdaa.heatHarder
