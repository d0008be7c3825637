/-
  A part of the texts that the claim builds on: see the last one.
-/
import Derived.Test.YtigpefjeelgfdaaDf4
import Derived.Deep.RegionLaw
set_option linter.unusedSimpArgs false
set_option linter.unusedVariables false
/-
  Walks of layer 1, eighth part: the reference's works, and its After.
-/
namespace Go.Proofs.Ytigpefjeelgfdaa
open Go.RowKit

set_option maxRecDepth 100000 in
set_option maxHeartbeats 4000000 in
theorem refCheckWorks_any (Ab As : Option Addr) (cb cs : Nat) (x : Works) (B : Nat) (w : World) (hbs : RgsA w B Ab x.bars) (hs : StepsA w B As x.steps) (hc : x.steps.length ≤ cs) (hm : cs ≤ 9223372036854775807) (hcb : x.bars.length ≤ cb) (hmb : cb ≤ 9223372036854775807) (hB : B ≤ w.heap.size) :
    Calls Try.prog 22 #[.agg #[.slice Ab x.bars.length cb, .slice As x.steps.length cs]] w fun e w' => e = .returned (.int .i64 (worksErr x)) ∧ Below w.heap.size w w' := by
  by_cases g1 : x.bars.length < 1 ∨ 6 < x.bars.length ∨ 6 < x.steps.length
  · have R : Hid (worksErr x = 6) := worksErr_many (by simp only [manyOk, g1]; simp)
    by_cases q1 : x.bars.length < 1
    · clear g1
      go_enter Try.func22, Try.ntmps22
      go_wp2_with fail
      go_ret
      exact ⟨ret_int R.out.symm, bel⟩
    by_cases q2 : 6 < x.bars.length
    · clear g1
      go_enter Try.func22, Try.ntmps22
      go_wp2_with fail
      go_ret
      exact ⟨ret_int R.out.symm, bel⟩
    have q3 : 6 < x.steps.length := by omega
    clear g1
    go_enter Try.func22, Try.ntmps22
    go_wp2_with fail
    go_ret
    exact ⟨ret_int R.out.symm, bel⟩
  obtain ⟨q1, q2, q3⟩ : ¬ x.bars.length < 1 ∧ ¬ 6 < x.bars.length ∧ ¬ 6 < x.steps.length := by omega
  have E : Hid (manyOk x = x.steps.all waysMany) := by simp only [Hid, manyOk, g1]; simp
  clear g1
  go_enter Try.func22, Try.ntmps22
  go_wp2_with fail
  go_loopw [3] (fun i wr => ∃ (k : Nat), k ≤ x.steps.length ∧ i = .int .i64 k ∧ Upto waysMany x.steps k ∧ Below w.heap.size w wr ∧ Box wr w.heap.size 25 #[.slice Ab x.bars.length cb, .slice As x.steps.length cs])
    (fun i _ => x.steps.length - (intOf i).toNat)
  case atStart =>
    refine ⟨0, by omega, rfl, Upto.zero _ _, bel, ?_⟩
    exact bxt
  case round =>
    obtain ⟨k, hk, rfl, hup, hbl, bw⟩ := hrel
    obtain ⟨u1, u2, u3, u4⟩ := bw.two
    have hz := bw.lt
    by_cases hlt : k < x.steps.length
    · obtain ⟨b, off, A', c', ws, rfl, hb, hx, d0, l1, l2, hws⟩ := stepsA (steps_on hs hbl hB) hlt
      have hbr : b < wr.heap.size := by omega
      by_cases p1 : ws.length < 1
      · have R : Hid (worksErr x = 6) := worksErr_many (E.out.trans (Upto.fail hx (waysMany_f (.inl p1))))
        go_wp2_with fail
        go_ret
        exact ⟨ret_int R.out.symm, bel⟩
      by_cases p2 : 5 < ws.length
      · have R : Hid (worksErr x = 6) := worksErr_many (E.out.trans (Upto.fail hx (waysMany_f (.inr p2))))
        go_wp2_with fail
        go_ret
        exact ⟨ret_int R.out.symm, bel⟩
      have ok : Hid (waysMany ws = true) := waysMany_t p1 p2
      go_wp2_with fail
      go_roundw
      case rel =>
        refine ⟨k + 1, by omega, by go_num, hup.succ hx ok.out, bel, ?_⟩
        exact bxt
      case measure => simp [intOf]; omega
    · have g1 : manyOk x = true := E.out.trans (hup.done (by omega))
      have bad2 : Hid (x.bars.all barOk = false → worksErr x = 2) := worksErr_bar g1
      have way : Hid (x.bars.all barOk = true → worksErr x = errs (errs wayErr) x.steps) := worksErr_way g1
      clear hup g1
      go_wp2_with fail
      obtain ⟨wo, rfl⟩ : ∃ wo : World, wo = wr := ⟨_, rfl⟩
      go_loopw [4] (fun i wr => ∃ (k : Nat), k ≤ x.bars.length ∧ i = .int .i64 k ∧ Upto barOk x.bars k ∧ Below w.heap.size w wr ∧ Box wr w.heap.size 25 #[.slice Ab x.bars.length cb, .slice As x.steps.length cs])
        (fun i _ => x.bars.length - (intOf i).toNat)
      case atStart =>
        refine ⟨0, by omega, rfl, Upto.zero _ _, bel, ?_⟩
        exact bxt
      case round =>
        obtain ⟨k, hk, rfl, hup, hbl, bw⟩ := hrel
        obtain ⟨u1, u2, u3, u4⟩ := bw.two
        have hz := bw.lt
        by_cases hlt : k < x.bars.length
        · obtain ⟨b, off, lo, hi, rfl, hb, hx, d0, d1⟩ := rgsA (rgs_on hbs hbl hB) hlt
          have hbr : b < wr.heap.size := by omega
          rcases isHard_cases lo hi with g | g
          · have G := Lib.hid g
            clear g
            go_wp2_with (go_at_call 47; refine (refIsHard_any _ _ _).mono ?_; rintro e w2 ⟨rfl, hb2⟩; rw [G.out]; obtain ⟨_hr1, _hr2⟩ := below_reads hb2; have _hz := Below.size hb2; (try simp only [World.size_alloc, World.size_setCell, World.size_drew, World.heap_drewN] at _hz))
            go_roundw
            case rel =>
              refine ⟨k + 1, by omega, by go_num, hup.succ hx G.out, bel, ?_⟩
              exact bxt
            case measure => simp [intOf]; omega
          · have R : Hid (worksErr x = 2) := bad2.out (Upto.fail hx g)
            have G := Lib.hid g
            clear g
            go_wp2_with (go_at_call 47; refine (refIsHard_any _ _ _).mono ?_; rintro e w2 ⟨rfl, hb2⟩; rw [G.out]; obtain ⟨_hr1, _hr2⟩ := below_reads hb2; have _hz := Below.size hb2; (try simp only [World.size_alloc, World.size_setCell, World.size_drew, World.heap_drewN] at _hz))
            go_ret
            exact ⟨ret_int R.out.symm, bel⟩
        · have W : Hid (worksErr x = errs (errs wayErr) x.steps) := way.out (hup.done (by omega))
          clear hup
          go_wp2_with fail
          obtain ⟨wo, rfl⟩ : ∃ wo : World, wo = wr := ⟨_, rfl⟩
          go_loopw [5] (fun i wr => ∃ (k : Nat), k ≤ x.steps.length ∧ i = .int .i64 k ∧ Upto (zeroB (errs wayErr)) x.steps k ∧ Below w.heap.size w wr ∧ Box wr w.heap.size 25 #[.slice Ab x.bars.length cb, .slice As x.steps.length cs])
            (fun i _ => x.steps.length - (intOf i).toNat)
          case atStart =>
            refine ⟨0, by omega, rfl, Upto.zero _ _, bel, ?_⟩
            exact bxt
          case round =>
            obtain ⟨k, hk, rfl, hup, hbl, bw⟩ := hrel
            obtain ⟨u1, u2, u3, u4⟩ := bw.two
            have hz := bw.lt
            by_cases hlt : k < x.steps.length
            · obtain ⟨b, off, A', c', ws, rfl, hb, hx, d0, l1, l2, hws⟩ := stepsA hs hlt
              go_wp2_with fail
              obtain ⟨wp, rfl⟩ : ∃ wp : World, wp = wr := ⟨_, rfl⟩
              go_loopw [6] (fun i wr => ∃ (m : Nat), m ≤ ws.length ∧ i = .int .i64 m ∧ Upto (zeroB wayErr) ws m ∧ Below w.heap.size w wr ∧ Box wr w.heap.size 25 #[.slice Ab x.bars.length cb, .slice (some ⟨b, off, none⟩) x.steps.length cs])
                (fun i _ => ws.length - (intOf i).toNat)
              case atStart =>
                refine ⟨0, by omega, rfl, Upto.zero _ _, bel, ?_⟩
                exact bxt
              case round =>
                obtain ⟨m, hm', rfl, hup2, hbl2, bw2⟩ := hrel
                obtain ⟨u1, u2, u3, u4⟩ := bw2.two
                have hz2 := bw2.lt
                have d1 := (hbl2.cell (p := ⟨b, off + k, none⟩) (by simp only []; omega)).trans d0
                have hbr : b < wr.heap.size := by omega
                by_cases hlt2 : m < ws.length
                · obtain ⟨b2, off2, A2, c2, ks, rfl, hb2, hx2, e0, l3, l4, hks⟩ := waysA hws hlt2
                  have e1 := (hbl2.cell (p := ⟨b2, off2 + m, none⟩) (by simp only []; omega)).trans e0
                  have hbr2 : b2 < wr.heap.size := by omega
                  by_cases g : wayErr ks = 0
                  · have G := Lib.hid g
                    clear g
                    go_wp2_with (go_at_call 20; refine (refCheckWay_any _ _ ks B _ (kinks_on hks (n := w.heap.size) bel hB) l3 l4 (by (focus (first | omega | (simp only [World.size_alloc, World.size_setCell, World.size_drew, World.heap_drewN]; first | done | omega))))).mono ?_; rintro e w2 ⟨rfl, hb2⟩; rw [G.out]; obtain ⟨_hr1, _hr2⟩ := below_reads hb2; have _hz := Below.size hb2; (try simp only [World.size_alloc, World.size_setCell, World.size_drew, World.heap_drewN] at _hz))
                    go_roundw
                    case rel =>
                      refine ⟨m + 1, by omega, by go_num, hup2.succ hx2 (by simp [zeroB, G.out]), bel, ?_⟩
                      exact bxt
                    case measure => simp [intOf]; omega
                  · have ne : errs wayErr ws = wayErr ks := errs_at hup2 hx2 g
                    have R : Hid (worksErr x = wayErr ks) := W.out.trans ((errs_at hup hx (by rw [ne]; exact g)).trans ne)
                    have g' : (wayErr ks != 0) = true := by simp [g]
                    clear ne g
                    go_wp2_with fail
                    refine (refCheckWay_any _ _ ks B _ (kinks_on hks (n := w.heap.size) bel hB) l3 l4 (by (focus (first | omega | (simp only [World.size_alloc, World.size_setCell, World.size_drew, World.heap_drewN]; first | done | omega))))).mono ?_
                    rintro e w2 ⟨rfl, hb2⟩
                    obtain ⟨_hr1, _hr2⟩ := below_reads hb2; have _hz := Below.size hb2; (try simp only [World.size_alloc, World.size_setCell, World.size_drew, World.heap_drewN] at _hz)
                    have _q7 : w.heap.size < w2.heap.size := by omega
                    have _q8 : b < w2.heap.size := by omega
                    have _q9 : b2 < w2.heap.size := by omega
                    go_wp2_with fail
                    refine (refCheckWay_any _ _ ks B _ (kinks_on hks (n := w.heap.size) bel hB) l3 l4 (by (focus (first | omega | (simp only [World.size_alloc, World.size_setCell, World.size_drew, World.heap_drewN]; first | done | omega))))).mono ?_
                    rintro e w3 ⟨rfl, hb3⟩
                    obtain ⟨_hr1, _hr2⟩ := below_reads hb3; have _hz := Below.size hb3; (try simp only [World.size_alloc, World.size_setCell, World.size_drew, World.heap_drewN] at _hz)
                    go_wp2_with fail
                    go_ret
                    exact ⟨ret_int R.out.symm, bel⟩
                · have ok : Hid (zeroB (errs wayErr) ws = true) := by simp only [Hid, zeroB, decide_eq_true_eq]; exact errs_zero.2 (hup2.done (by omega))
                  go_wp2_with fail
                  go_roundw
                  case rel =>
                    refine ⟨k + 1, by omega, by go_num, hup.succ hx ok.out, bel, ?_⟩
                    exact bxt
                  case measure => simp [intOf]; omega
            · have R : Hid (worksErr x = 0) := W.out.trans (errs_zero.2 (hup.done (by omega)))
              go_wp2_with fail
              go_ret
              exact ⟨ret_int R.out.symm, bel⟩

set_option maxHeartbeats 400000 in
theorem refAfterX_any (A : Option Addr) (c : Nat) (ks : List Kink) (hard : Int) (B : Nat) (w : World) (h : KinksA w B A ks) (hc : ks.length ≤ c) (hm : c ≤ 9223372036854775807) (hB : B ≤ w.heap.size) :
    Calls Try.prog 18 #[.agg #[.slice A ks.length c], .int .i64 hard] w fun e w' => e = .returned (aftV ks hard) ∧ Below w.heap.size w w' := by
  by_cases g1 : wayErr ks = 0
  · have n0 := pos_of_wayErr g1
    have H1 := Lib.hid g1
    by_cases q1 : hard < 0
    · have E : Hid (aftV ks hard = .tuple #[.agg #[.int .i64 0, .int .i64 0], .int .i64 2]) := by simp [Hid, aftV, g1, hardB_f (.inl q1)]
      clear g1
      go_enter Try.func18, Try.ntmps18
      go_wp2_with (go_at_call 20; refine (refCheckWay_any _ _ ks B _ (kinks_on h (n := w.heap.size) bel hB) hc hm (by (focus (first | omega | (simp only [World.size_alloc, World.size_setCell, World.size_drew, World.heap_drewN]; first | done | omega))))).mono ?_; rintro e w1 ⟨rfl, hb1⟩; rw [H1.out]; obtain ⟨_hr1, _hr2⟩ := below_reads hb1; have _hz := Below.size hb1; (try simp only [World.size_alloc, World.size_setCell, World.size_drew, World.heap_drewN] at _hz); obtain ⟨_hr3, _hr4⟩ := below_reads (show Below w.heap.size w w1 from bel); have _q0 : w.heap.size < w1.heap.size := (by omega); have _q1 : w.heap.size + 1 < w1.heap.size := (by omega))
      refine bodyPost_ret (v := .tuple #[.agg #[.int .i64 0, .int .i64 0], .int .i64 2]) (by simp [results, Try.results18, go_sem, *]) rfl ?_
      rw [E.out]
      exact ⟨rfl, bel⟩
    by_cases q2 : 1000 < hard
    · have E : Hid (aftV ks hard = .tuple #[.agg #[.int .i64 0, .int .i64 0], .int .i64 2]) := by simp [Hid, aftV, g1, hardB_f (.inr q2)]
      clear g1
      go_enter Try.func18, Try.ntmps18
      go_wp2_with (go_at_call 20; refine (refCheckWay_any _ _ ks B _ (kinks_on h (n := w.heap.size) bel hB) hc hm (by (focus (first | omega | (simp only [World.size_alloc, World.size_setCell, World.size_drew, World.heap_drewN]; first | done | omega))))).mono ?_; rintro e w1 ⟨rfl, hb1⟩; rw [H1.out]; obtain ⟨_hr1, _hr2⟩ := below_reads hb1; have _hz := Below.size hb1; (try simp only [World.size_alloc, World.size_setCell, World.size_drew, World.heap_drewN] at _hz); obtain ⟨_hr3, _hr4⟩ := below_reads (show Below w.heap.size w w1 from bel); have _q0 : w.heap.size < w1.heap.size := (by omega); have _q1 : w.heap.size + 1 < w1.heap.size := (by omega))
      refine bodyPost_ret (v := .tuple #[.agg #[.int .i64 0, .int .i64 0], .int .i64 2]) (by simp [results, Try.results18, go_sem, *]) rfl ?_
      rw [E.out]
      exact ⟨rfl, bel⟩
    · have E : Hid (aftV ks hard = .tuple #[.agg #[.int .i64 (aft ks hard).1, .int .i64 (aft ks hard).2], .int .i64 0]) := by simp [Hid, aftV, g1, hardB_t (show 0 ≤ hard by omega) (show hard ≤ 1000 by omega)]
      clear g1
      go_enter Try.func18, Try.ntmps18
      go_wp2_with (first
        | (go_at_call 20; refine (refCheckWay_any _ _ ks B _ (kinks_on h (n := w.heap.size) bel hB) hc hm (by (focus (first | omega | (simp only [World.size_alloc, World.size_setCell, World.size_drew, World.heap_drewN]; first | done | omega))))).mono ?_; rintro e w1 ⟨rfl, hb1⟩; rw [H1.out]; obtain ⟨_hr1, _hr2⟩ := below_reads hb1; have _hz := Below.size hb1; (try simp only [World.size_alloc, World.size_setCell, World.size_drew, World.heap_drewN] at _hz); obtain ⟨_hr3, _hr4⟩ := below_reads (show Below w.heap.size w w1 from bel); have _q0 : w.heap.size < w1.heap.size := (by omega); have _q1 : w.heap.size + 1 < w1.heap.size := (by omega))
        | (go_at_call 55; refine (refAfter_any _ _ ks hard B _ (kinks_on h (n := w.heap.size) bel hB) hc hm (by (focus (first | omega | (simp only [World.size_alloc, World.size_setCell, World.size_drew, World.heap_drewN]; first | done | omega)))) n0).mono ?_; rintro e w2 ⟨rfl, hb2⟩; obtain ⟨_hr1, _hr2⟩ := below_reads hb2; have _hz := Below.size hb2; (try simp only [World.size_alloc, World.size_setCell, World.size_drew, World.heap_drewN] at _hz); obtain ⟨_hr3, _hr4⟩ := below_reads (show Below w.heap.size w w2 from bel); have _q0 : w.heap.size < w2.heap.size := (by omega); have _q1 : w.heap.size + 1 < w2.heap.size := (by omega)))
      refine bodyPost_ret (v := .tuple #[.agg #[.int .i64 (aft ks hard).1, .int .i64 (aft ks hard).2], .int .i64 0]) (by simp [results, Try.results18, go_sem, *]) rfl ?_
      rw [E.out]
      exact ⟨rfl, bel⟩
  · have E : Hid (aftV ks hard = .tuple #[.agg #[.int .i64 0, .int .i64 0], .int .i64 (wayErr ks)]) := by simp [Hid, aftV, g1]
    have n1 : (wayErr ks != 0) = true := by simp [g1]
    clear g1
    go_enter Try.func18, Try.ntmps18
    go_wp2_with fail
    refine (refCheckWay_any _ _ ks B _ (kinks_on h (n := w.heap.size) bel hB) hc hm (by (focus (first | omega | (simp only [World.size_alloc, World.size_setCell, World.size_drew, World.heap_drewN]; first | done | omega))))).mono ?_
    rintro e w1 ⟨rfl, hb1⟩
    obtain ⟨_hr1, _hr2⟩ := below_reads hb1; have _hz := Below.size hb1; (try simp only [World.size_alloc, World.size_setCell, World.size_drew, World.heap_drewN] at _hz); obtain ⟨_hr3, _hr4⟩ := below_reads (show Below w.heap.size w w1 from bel); have _q0 : w.heap.size < w1.heap.size := (by omega); have _q1 : w.heap.size + 1 < w1.heap.size := (by omega)
    go_wp2_with fail
    refine (refCheckWay_any _ _ ks B _ (kinks_on h (n := w.heap.size) bel hB) hc hm (by (focus (first | omega | (simp only [World.size_alloc, World.size_setCell, World.size_drew, World.heap_drewN]; first | done | omega))))).mono ?_
    rintro e w2 ⟨rfl, hb2⟩
    obtain ⟨_hr1, _hr2⟩ := below_reads hb2; have _hz := Below.size hb2; (try simp only [World.size_alloc, World.size_setCell, World.size_drew, World.heap_drewN] at _hz); obtain ⟨_hr3, _hr4⟩ := below_reads (show Below w.heap.size w w2 from bel); have _q0 : w.heap.size < w2.heap.size := (by omega); have _q1 : w.heap.size + 1 < w2.heap.size := (by omega)
    go_wp2_with fail
    refine bodyPost_ret (v := .tuple #[.agg #[.int .i64 0, .int .i64 0], .int .i64 (wayErr ks)]) (by simp [results, Try.results18, go_sem, *]) rfl ?_
    rw [E.out]
    exact ⟨rfl, bel⟩
end Go.Proofs.Ytigpefjeelgfdaa

/-
  Walks of layer 1, eleventh part: the reference's recipes and histories.
-/
namespace Go.Proofs.Ytigpefjeelgfdaa
open Go.RowKit

set_option maxHeartbeats 1000000 in
theorem refIsRecipe_any (Ab As Ar : Option Addr) (cb cs cr : Nat) (x : Works) (bar : Int) (ways : List Int) (B : Nat) (w : World) (h : In w B Ab As Ar cb cs cr x ways) :
    Calls Try.prog 63 #[.agg #[.slice Ab x.bars.length cb, .slice As x.steps.length cs], .agg #[.int .i64 bar, .slice Ar ways.length cr]] w
      fun e w' => e = .returned (.int .i64 (recErr x bar ways)) ∧ Below w.heap.size w w' := by
  obtain ⟨hb, hs, hw, k1, k2, k3, k4, k5, k6, hB⟩ := h
  by_cases g1 : worksErr x = 0
  · have G1 := Lib.hid g1
    by_cases g2 : ways.length = x.steps.length
    · have g2' : ((ways.length : Int) != (x.steps.length : Int)) = false := by simp [g2]
      have G2 := Lib.hid g2
      by_cases g3 : bar < 0 ∨ (x.bars.length : Int) ≤ bar
      · have R : Hid (recErr x bar ways = 3) := recErr_bar g1 g2 g3
        clear g1 g2
        by_cases q1 : bar < 0
        · clear g3
          go_enter Try.func63, Try.ntmps63
          go_wp2_with (go_at_call 22; refine (refCheckWorks_any _ _ _ _ x B _ (rgs_on hb (n := w.heap.size) bel hB) (steps_on hs (n := w.heap.size) bel hB) k3 k4 k1 k2 (by (focus (first | omega | (simp only [World.size_alloc, World.size_setCell, World.size_drew, World.heap_drewN]; first | done | omega))))).mono ?_; rintro e w1 ⟨rfl, hb1⟩; rw [G1.out]; obtain ⟨_hr1, _hr2⟩ := below_reads hb1; have _hz := Below.size hb1; (try simp only [World.size_alloc, World.size_setCell, World.size_drew, World.heap_drewN] at _hz); obtain ⟨_hr3, _hr4⟩ := below_reads (show Below w.heap.size w w1 from bel); have _q0 : w.heap.size < w1.heap.size := (by omega); have _q1 : w.heap.size + 1 < w1.heap.size := (by omega))
          go_ret
          exact ⟨ret_int R.out.symm, bel⟩
        · have q2 : (x.bars.length : Int) ≤ bar := by omega
          clear g3
          go_enter Try.func63, Try.ntmps63
          go_wp2_with (go_at_call 22; refine (refCheckWorks_any _ _ _ _ x B _ (rgs_on hb (n := w.heap.size) bel hB) (steps_on hs (n := w.heap.size) bel hB) k3 k4 k1 k2 (by (focus (first | omega | (simp only [World.size_alloc, World.size_setCell, World.size_drew, World.heap_drewN]; first | done | omega))))).mono ?_; rintro e w1 ⟨rfl, hb1⟩; rw [G1.out]; obtain ⟨_hr1, _hr2⟩ := below_reads hb1; have _hz := Below.size hb1; (try simp only [World.size_alloc, World.size_setCell, World.size_drew, World.heap_drewN] at _hz); obtain ⟨_hr3, _hr4⟩ := below_reads (show Below w.heap.size w w1 from bel); have _q0 : w.heap.size < w1.heap.size := (by omega); have _q1 : w.heap.size + 1 < w1.heap.size := (by omega))
          go_ret
          exact ⟨ret_int R.out.symm, bel⟩
      · obtain ⟨q1, q2⟩ : ¬ bar < 0 ∧ ¬ (x.bars.length : Int) ≤ bar := by omega
        have bad : Hid (∀ k, k < ways.length → wayIn x.steps ways k = false → recErr x bar ways = 3) := fun k hk h4 => recErr_way g1 g2 g3 hk h4
        have fin : Hid (allN (wayIn x.steps ways) ways.length = true → recErr x bar ways = 0) := recErr_ok g1 g2 g3
        clear g1 g2 g3
        go_enter Try.func63, Try.ntmps63
        go_wp2_with (go_at_call 22; refine (refCheckWorks_any _ _ _ _ x B _ (rgs_on hb (n := w.heap.size) bel hB) (steps_on hs (n := w.heap.size) bel hB) k3 k4 k1 k2 (by (focus (first | omega | (simp only [World.size_alloc, World.size_setCell, World.size_drew, World.heap_drewN]; first | done | omega))))).mono ?_; rintro e w1 ⟨rfl, hb1⟩; rw [G1.out]; obtain ⟨_hr1, _hr2⟩ := below_reads hb1; have _hz := Below.size hb1; (try simp only [World.size_alloc, World.size_setCell, World.size_drew, World.heap_drewN] at _hz); obtain ⟨_hr3, _hr4⟩ := below_reads (show Below w.heap.size w w1 from bel); have _q0 : w.heap.size < w1.heap.size := (by omega); have _q1 : w.heap.size + 1 < w1.heap.size := (by omega))
        go_loopw [5] (fun i wr => ∃ (k : Nat), k ≤ ways.length ∧ i = .int .i64 k ∧ UptoN (wayIn x.steps ways) k ∧ Below w.heap.size w wr ∧ Box wr w.heap.size 25 #[.slice Ab x.bars.length cb, .slice As x.steps.length cs] ∧
            Box wr (w.heap.size + 1) 42 #[.int .i64 bar, .slice Ar ways.length cr])
          (fun i _ => ways.length - (intOf i).toNat)
        case atStart =>
          refine ⟨0, by omega, rfl, UptoN.zero _, bel, ?_, ?_⟩
          all_goals exact bxt
        case round =>
          obtain ⟨k, hk, rfl, hup, hbl, bw, br⟩ := hrel
          obtain ⟨u1, u2, u3, u4⟩ := bw.two
          obtain ⟨t1, t2, t3, t4⟩ := br.two
          have hz := bw.lt
          have hz2 := br.lt
          by_cases hlt : k < ways.length
          · obtain ⟨b2, o2, n, rfl, hb2, hx2, d2⟩ := intsA (ints_on hw hbl hB) hlt
            have hlt' : k < x.steps.length := by have := G2.out; omega
            obtain ⟨b1, o1, A1, c1, ws, rfl, hb1', hx1, d1, l1, l2, hws⟩ := stepsA (steps_on hs hbl hB) hlt'
            have hbr1 : b1 < wr.heap.size := by omega
            have hbr2 : b2 < wr.heap.size := by omega
            have s1 : (k : Int) < (ways.length : Int) := by omega
            have s2 : (k : Int) < (x.steps.length : Int) := by omega
            by_cases p : 0 ≤ n ∧ n < (ws.length : Int)
            · have ok : Hid (wayIn x.steps ways k = true) := by simp only [Hid, wayIn, intAt_of hx2, stepAt_of hx1, decide_eq_true_eq]; exact p
              obtain ⟨p1, p2⟩ := p
              have p1' : decide (n < 0) = false := by simpa using p1
              go_wp2_with fail
              go_quiet (fail)
              go_wp2_with fail
              go_roundw
              case rel =>
                refine ⟨k + 1, by omega, by go_num, hup.succ ok.out, bel, ?_, ?_⟩
                all_goals exact bxt
              case measure => simp [intOf]; omega
            · have R : Hid (recErr x bar ways = 3) := bad.out k hlt (by simp only [wayIn, intAt_of hx2, stepAt_of hx1, decide_eq_false_iff_not]; exact p)
              by_cases p1 : n < 0
              · clear p
                go_wp2_with fail
                go_quiet (fail)
                go_wp2_with fail
                go_ret
                exact ⟨ret_int R.out.symm, bel⟩
              · have p2 : (ws.length : Int) ≤ n := by omega
                have p1' : decide (n < 0) = false := by simpa using p1
                clear p
                go_wp2_with fail
                go_quiet (fail)
                go_wp2_with fail
                go_ret
                exact ⟨ret_int R.out.symm, bel⟩
          · have R : Hid (recErr x bar ways = 0) := fin.out (hup.done (by omega))
            go_wp2_with fail
            go_ret
            exact ⟨ret_int R.out.symm, bel⟩
    · have g2' : ((ways.length : Int) != (x.steps.length : Int)) = true := by simp; omega
      have R : Hid (recErr x bar ways = 15) := recErr_len g1 g2
      clear g1 g2
      go_enter Try.func63, Try.ntmps63
      go_wp2_with (go_at_call 22; refine (refCheckWorks_any _ _ _ _ x B _ (rgs_on hb (n := w.heap.size) bel hB) (steps_on hs (n := w.heap.size) bel hB) k3 k4 k1 k2 (by (focus (first | omega | (simp only [World.size_alloc, World.size_setCell, World.size_drew, World.heap_drewN]; first | done | omega))))).mono ?_; rintro e w1 ⟨rfl, hb1⟩; rw [G1.out]; obtain ⟨_hr1, _hr2⟩ := below_reads hb1; have _hz := Below.size hb1; (try simp only [World.size_alloc, World.size_setCell, World.size_drew, World.heap_drewN] at _hz); obtain ⟨_hr3, _hr4⟩ := below_reads (show Below w.heap.size w w1 from bel); have _q0 : w.heap.size < w1.heap.size := (by omega); have _q1 : w.heap.size + 1 < w1.heap.size := (by omega))
      go_ret
      exact ⟨ret_int R.out.symm, bel⟩
  · have R : Hid (recErr x bar ways = worksErr x) := recErr_works g1
    have g1' : (worksErr x != 0) = true := by simp [g1]
    clear g1
    go_enter Try.func63, Try.ntmps63
    go_wp2_with fail
    refine (refCheckWorks_any _ _ _ _ x B _ (rgs_on hb (n := w.heap.size) bel hB) (steps_on hs (n := w.heap.size) bel hB) k3 k4 k1 k2 (by (focus (first | omega | (simp only [World.size_alloc, World.size_setCell, World.size_drew, World.heap_drewN]; first | done | omega))))).mono ?_
    rintro e w1 ⟨rfl, hb1⟩
    obtain ⟨_hr1, _hr2⟩ := below_reads hb1; have _hz := Below.size hb1; (try simp only [World.size_alloc, World.size_setCell, World.size_drew, World.heap_drewN] at _hz); obtain ⟨_hr3, _hr4⟩ := below_reads (show Below w.heap.size w w1 from bel); have _q0 : w.heap.size < w1.heap.size := (by omega); have _q1 : w.heap.size + 1 < w1.heap.size := (by omega)
    go_wp2_with fail
    refine (refCheckWorks_any _ _ _ _ x B _ (rgs_on hb (n := w.heap.size) bel hB) (steps_on hs (n := w.heap.size) bel hB) k3 k4 k1 k2 (by (focus (first | omega | (simp only [World.size_alloc, World.size_setCell, World.size_drew, World.heap_drewN]; first | done | omega))))).mono ?_
    rintro e w2 ⟨rfl, hb2⟩
    obtain ⟨_hr1, _hr2⟩ := below_reads hb2; have _hz := Below.size hb2; (try simp only [World.size_alloc, World.size_setCell, World.size_drew, World.heap_drewN] at _hz); obtain ⟨_hr3, _hr4⟩ := below_reads (show Below w.heap.size w w2 from bel); have _q0 : w.heap.size < w2.heap.size := (by omega); have _q1 : w.heap.size + 1 < w2.heap.size := (by omega)
    go_wp2_with fail
    go_ret
    exact ⟨ret_int R.out.symm, bel⟩
end Go.Proofs.Ytigpefjeelgfdaa

/-
  Walks of layer 1, twelfth part: the reference's histories.
-/
namespace Go.Proofs.Ytigpefjeelgfdaa
open Go.RowKit

theorem inB_cases (n lo hi : Int) : inB n lo hi = true ∨ inB n lo hi = false := by cases inB n lo hi <;> simp

set_option maxHeartbeats 2000000 in
theorem refCheckHistory_ok (Ab As Ar Ah : Option Addr) (cb cs cr ch : Nat) (x : Works) (bar : Int) (ways hist : List Int) (B : Nat) (w : World) (h : In w B Ab As Ar cb cs cr x ways)
    (hh : IntsA .i64 w B Ah hist) (ch1 : hist.length ≤ ch) (ch2 : ch ≤ 9223372036854775807) (G : Hid (recErr x bar ways = 0)) (hl : Hid (hist.length = x.steps.length + 1)) :
    Calls Try.prog 27 #[.agg #[.slice Ab x.bars.length cb, .slice As x.steps.length cs], .agg #[.int .i64 bar, .slice Ar ways.length cr], .slice Ah hist.length ch] w
      fun e w' => e = .returned (.int .i64 (histErr x bar ways hist)) ∧ Below w.heap.size w w' := by
  have bad : Hid (∀ k, k < hist.length → histOk x bar ways hist k = false → histErr x bar ways hist = 16) := fun k hk h4 => histErr_no G.out hl.out hk h4
  have fin : Hid (allN (histOk x bar ways hist) hist.length = true → histErr x bar ways hist = 0) := histErr_ok G.out hl.out
  have ok := recOk_iff.1 G.out
  have hwl : Hid (ways.length = x.steps.length) := ok.len
  obtain ⟨m, hbar⟩ := Int.eq_ofNat_of_zero_le ok.bar0
  subst hbar
  have hmb : m < x.bars.length := by have := ok.bar1; omega
  have hmb' : (m : Int) < (x.bars.length : Int) := by omega
  obtain ⟨b0, o0, lo0, hi0, rfl, hb0, hx0, e0, e1⟩ := rgsA h.bars hmb
  have hh0 : 0 < hist.length := by have := hl.out; omega
  have hh0' : (0 : Int) < (hist.length : Int) := by omega
  obtain ⟨bh, oh, n0, rfl, hbh, hxh, f0⟩ := intsA hh hh0
  simp only [Nat.add_zero] at f0
  have hw0 : Hid (within x m ways hist 0 = (lo0, hi0)) := by simp only [Hid, within, Int.toNat_natCast, rgAt_of hx0]
  have hB := h.le
  have hbw : b0 < w.heap.size := by omega
  have hbw' : bh < w.heap.size := by omega
  have hne : ((hist.length : Int) != (x.steps.length : Int) + 1) = false := by have := hl.out; simp; omega
  have hsl : x.steps.length ≤ 9223372036854775806 := by have := hl.out; omega
  have nn : (0 : Int) ≤ (m : Int) := by omega
  rcases inB_cases n0 lo0 hi0 with p0 | p0
  · have ok0 : Hid (histOk x m ways hist 0 = true) := by simp only [Hid, histOk, hw0.out, intAt_of hxh]; exact p0
    have P0 := Lib.hid p0
    clear p0
    go_enter Try.func27, Try.ntmps27
    go_wp2_with (go_at_call 63; refine (refIsRecipe_any _ _ _ _ _ _ x m ways B _ (h.on (n := w.heap.size) bel hB)).mono ?_; rintro e w1 ⟨rfl, hb1⟩; rw [G.out]; obtain ⟨_hr1, _hr2⟩ := below_reads hb1; have _hz := Below.size hb1; (try simp only [World.size_alloc, World.size_setCell, World.size_drew, World.heap_drewN] at _hz); obtain ⟨_hr3, _hr4⟩ := below_reads (show Below w.heap.size w w1 from bel); have _q0 : w.heap.size < w1.heap.size := (by omega); have _q1 : w.heap.size + 1 < w1.heap.size := (by omega))
    have v1 : b0 < w1.heap.size := by omega
    have v2 : bh < w1.heap.size := by omega
    refine wp_region_later (by kernel_rfl) (by kernel_rfl) ?_; have _hl := later_reads (w1); (repeat (go_big_quiet_step ((go_at_call 46; have q := refIn_any n0 lo0 hi0; rw [P0.out] at q; exact LaterW.calls (q _))))); refine wpQuiet_nil ?_; intro w2 hw'; have hb_w2 := later_below hw'; clear hw' _hl
    obtain ⟨_hr1, _hr2⟩ := below_reads hb_w2; have _hz := Below.size hb_w2; (try simp only [World.size_alloc, World.size_setCell, World.size_drew, World.heap_drewN] at _hz); obtain ⟨_hr3, _hr4⟩ := below_reads (show Below w.heap.size w w2 from bel); have _q0 : w.heap.size < w2.heap.size := (by omega); have _q1 : w.heap.size + 1 < w2.heap.size := (by omega)
    go_wp2_with fail
    go_loopw [7] (fun i wr => ∃ (k : Nat), k ≤ ways.length ∧ i = .int .i64 k ∧ UptoN (histOk x m ways hist) (k + 1) ∧ Below w.heap.size w wr ∧
        Box wr w.heap.size 25 #[.slice (some ⟨b0, o0, none⟩) x.bars.length cb, .slice As x.steps.length cs] ∧ Box wr (w.heap.size + 1) 42 #[.int .i64 m, .slice Ar ways.length cr])
      (fun i _ => ways.length - (intOf i).toNat)
    case atStart =>
      refine ⟨0, by omega, rfl, (UptoN.zero _).succ ok0.out, bel, ?_, ?_⟩
      all_goals exact bxt
    case round =>
      obtain ⟨k, hk, rfl, hup, hbl, bw, br⟩ := hrel
      obtain ⟨u5, u6, u7, u8⟩ := bw.two
      obtain ⟨t5, t6, t7, t8⟩ := br.two
      have hz1 := bw.lt
      have hz2 := br.lt
      by_cases hlt : k < ways.length
      · obtain ⟨b, off, n, e, hb, hx, d0⟩ := intsA (i := k) (ints_on hh hbl hB) (by have := hl.out; have := hwl.out; omega)
        obtain ⟨rfl, rfl⟩ : b = bh ∧ off = oh := by simp at e; exact ⟨e.1.symm, e.2.symm⟩
        clear e
        obtain ⟨b', off', n', e, hb', hx', d0'⟩ := intsA (i := k + 1) (ints_on hh hbl hB) (by have := hl.out; have := hwl.out; omega)
        obtain ⟨rfl, rfl⟩ : b' = b ∧ off' = off := by simp at e; exact ⟨e.1.symm, e.2.symm⟩
        clear e
        obtain ⟨b1, o1, b2, o2, b3, o3, A1, A2, c1, c2, ws, mm, ks, rfl, rfl, rfl, hb1', hb2', hb3', hm, f1, f2, f3, l1, l2, l3, l4, hks, hwo, hwe, hne0, _⟩ := way_at h.steps h.rways ok (i := k) (by have := hwl.out; omega)
        have f1' := (hbl.cell (p := ⟨b1, o1 + k, none⟩) (by simp only []; omega)).trans f1
        have f2' := (hbl.cell (p := ⟨b2, o2 + k, none⟩) (by simp only []; omega)).trans f2
        have f3' := (hbl.cell (p := ⟨b3, o3 + mm, none⟩) (by simp only []; omega)).trans f3
        have v0 : b' < wr.heap.size := by omega
        have v1 : b1 < wr.heap.size := by omega
        have v2 : b2 < wr.heap.size := by omega
        have v3 : b3 < wr.heap.size := by omega
        have s0 : IntKind.i64.wrap ((k : Int) + 1) = (k : Int) + 1 := IntWalk.i64_in _ (by have := hwl.out; omega)
        have s1 : (k : Int) + 1 < (hist.length : Int) := by have := hl.out; have := hwl.out; omega
        have s2 : (k : Int) < (hist.length : Int) := by omega
        have s7 : (k : Int) < (ways.length : Int) := by omega
        have s8 : (mm : Int) < (ws.length : Int) := by omega
        have s9 : (k : Int) < (x.steps.length : Int) := by have := hwl.out; omega
        have s10 : (0 : Int) ≤ (k : Int) + 1 := by omega
        have s11 : ((k : Int) + 1).toNat = k + 1 := by omega
        have hwk : Hid (histOk x m ways hist (k + 1) = inB n' (aft ks n).1 (aft ks n).2) := by
          show inB (intAt hist (k + 1)) (aft (wayOf x ways k) (intAt hist k)).1 (aft (wayOf x ways k) (intAt hist k)).2 = _
          rw [hwo.out, intAt_of hx, intAt_of hx']
        clear hwe hwo
        rcases inB_cases n' (aft ks n).1 (aft ks n).2 with p | p
        · have P := Lib.hid p
          clear p
          go_wp2_with fail
          refine wp_region_later (by kernel_rfl) (by kernel_rfl) ?_; have _hl := later_reads (wr); (repeat (go_big_quiet_step ((first | (go_at_call 55; exact LaterW.callsB (fun W hbW => refAfter_any _ _ ks n B W (kinks_on hks (n := w.heap.size) (hbl.trans (hbW.mono (by omega))) hB) l3 l4 (by have := hbW.size; omega) hne0)) | (go_at_call 46; have q := refIn_any n' (aft ks n).1 (aft ks n).2; rw [P.out] at q; exact LaterW.calls (q _)))))); refine wpQuiet_nil ?_; intro w3 hw'; have hb_w3 := later_below hw'; clear hw' _hl
          obtain ⟨_hr1, _hr2⟩ := below_reads hb_w3; have _hz := Below.size hb_w3; (try simp only [World.size_alloc, World.size_setCell, World.size_drew, World.heap_drewN] at _hz)
          go_wp2_with fail
          go_roundw
          case rel =>
            refine ⟨k + 1, by omega, by go_num, hup.succ (hwk.out.trans P.out), bel, ?_, ?_⟩
            all_goals exact bxt
          case measure => simp [intOf]; omega
        · have R : Hid (histErr x m ways hist = 16) := bad.out (k + 1) (by have := hl.out; have := hwl.out; omega) (hwk.out.trans p)
          have P := Lib.hid p
          clear p
          go_wp2_with fail
          refine wp_region_later (by kernel_rfl) (by kernel_rfl) ?_; have _hl := later_reads (wr); (repeat (go_big_quiet_step ((first | (go_at_call 55; exact LaterW.callsB (fun W hbW => refAfter_any _ _ ks n B W (kinks_on hks (n := w.heap.size) (hbl.trans (hbW.mono (by omega))) hB) l3 l4 (by have := hbW.size; omega) hne0)) | (go_at_call 46; have q := refIn_any n' (aft ks n).1 (aft ks n).2; rw [P.out] at q; exact LaterW.calls (q _)))))); refine wpQuiet_nil ?_; intro w3 hw'; have hb_w3 := later_below hw'; clear hw' _hl
          go_wp2_with fail
          go_ret
          exact ⟨ret_int R.out.symm, bel⟩
      · have R : Hid (histErr x m ways hist = 0) := fin.out (hup.done (by have := hl.out; have := hwl.out; omega))
        go_wp2_with fail
        go_ret
        exact ⟨ret_int R.out.symm, bel⟩
  · have R : Hid (histErr x m ways hist = 16) := bad.out 0 hh0 (by simp only [histOk, hw0.out, intAt_of hxh]; exact p0)
    have P0 := Lib.hid p0
    clear p0
    go_enter Try.func27, Try.ntmps27
    go_wp2_with (go_at_call 63; refine (refIsRecipe_any _ _ _ _ _ _ x m ways B _ (h.on (n := w.heap.size) bel hB)).mono ?_; rintro e w1 ⟨rfl, hb1⟩; rw [G.out]; obtain ⟨_hr1, _hr2⟩ := below_reads hb1; have _hz := Below.size hb1; (try simp only [World.size_alloc, World.size_setCell, World.size_drew, World.heap_drewN] at _hz); obtain ⟨_hr3, _hr4⟩ := below_reads (show Below w.heap.size w w1 from bel); have _q0 : w.heap.size < w1.heap.size := (by omega); have _q1 : w.heap.size + 1 < w1.heap.size := (by omega))
    have v1 : b0 < w1.heap.size := by omega
    have v2 : bh < w1.heap.size := by omega
    refine wp_region_later (by kernel_rfl) (by kernel_rfl) ?_; have _hl := later_reads (w1); (repeat (go_big_quiet_step ((go_at_call 46; have q := refIn_any n0 lo0 hi0; rw [P0.out] at q; exact LaterW.calls (q _))))); refine wpQuiet_nil ?_; intro w2 hw'; have hb_w2 := later_below hw'; clear hw' _hl
    go_wp2_with fail
    go_ret
    exact ⟨ret_int R.out.symm, bel⟩
end Go.Proofs.Ytigpefjeelgfdaa

/-
  Walks of layer 1's reference: the ranges of a recipe.
-/
namespace Go.Proofs.Ytigpefjeelgfdaa
open Go.RowKit

/-- The ranges of the first parts of a recipe, as cells. -/
def rngTo (x : Works) (m : Nat) (ways : List Int) (n : Nat) : List Value := ((List.range n).map (rngN x m ways)).flatMap rgV
theorem rngTo_succ (x : Works) (m : Nat) (ways : List Int) (k : Nat) : rngTo x m ways (k + 1) = rngTo x m ways k ++ [.int .i64 (rngN x m ways k).1, .int .i64 (rngN x m ways k).2] := by
  unfold rngTo
  rw [List.range_succ, List.map_append, List.flatMap_append]
  rfl
theorem own_first {w : World} {g : Nat} {t : TypeId} {a b : Value} {base : Nat} (h : Box w g t #[a, b]) (hb : base ≤ g) : w.ownsRow base t 2 (.slice (some ⟨g, 0, none⟩) 1 1) 1 [a, b] :=
  ⟨rfl, .inr ⟨g, 1, #[a, b], rfl, hb, h, Nat.le_refl _, by decide, rfl, rfl⟩⟩
theorem box_keep_gb {w w' : World} {g base n size : Nat} {t e : TypeId} {cs : Array Value} {v : Value} {xs : List Value} (h : Box w g t cs) (ho : w.ownsRow base e size v n xs) (hg : w.grownBy w' v.ownBlock) (hlt : g < base) : Box w' g t cs := by
  refine (hg.block g h.lt fun e => ?_).trans h
  rcases ho.2 with ⟨rfl, _⟩ | ⟨g', cap, cur, rfl, hb, _⟩
  · cases e
  · simp only [Value.ownBlock, Option.some.injEq] at e
    omega
theorem below_gb {w a w' : World} {base n size : Nat} {e : TypeId} {v : Value} {xs : List Value} (hb : Below w.heap.size w a) (ho : a.ownsRow base e size v n xs) (hg : a.grownBy w' v.ownBlock) (hlt : w.heap.size ≤ base) : Below w.heap.size w w' := by
  refine hb.trans (gb_to_below hg hb.size fun g h => ?_)
  rcases ho.2 with ⟨rfl, _⟩ | ⟨g', cap, cur, rfl, hb', _⟩
  · cases h
  · simp only [Value.ownBlock, Option.some.injEq] at h
    omega
theorem wayBox {w : World} {g : Nat} {t : TypeId} {a : Value} (h : Box w g t #[a]) : w.cell? ⟨g, 0, none⟩ = some a := h.cell 0

set_option maxRecDepth 100000 in
set_option maxHeartbeats 4000000 in
theorem refranges_own (Ab As Ar : Option Addr) (cb cs cr : Nat) (x : Works) (m : Nat) (ways : List Int) (B : Nat) (w : World) (h : In w B Ab As Ar cb cs cr x ways) (ok : RecOk x (m : Int) ways) :
    Calls Try.prog 64 #[.agg #[.slice Ab x.bars.length cb, .slice As x.steps.length cs], .agg #[.int .i64 m, .slice Ar ways.length cr]] w fun e w' => ∃ v, e = .returned v ∧ Hid (w'.ownsRow w.heap.size 33 2 v (x.steps.length + 1) (rngTo x m ways (x.steps.length + 1))) ∧ Below w.heap.size w w' := by
  have hwl : Hid (ways.length = x.steps.length) := ok.len
  have hs6 := steps_few ok.works
  have hmb : m < x.bars.length := by have := ok.bar1; omega
  have hmb' : (m : Int) < (x.bars.length : Int) := by omega
  obtain ⟨b0, o0, lo0, hi0, rfl, hb0, hx0, e0, e1⟩ := rgsA h.bars hmb
  have hr0 : Hid (rngN x m ways 0 = (lo0, hi0)) := rgAt_of hx0
  have hB := h.le
  have hbw : b0 < w.heap.size := by omega
  have nn : (0 : Int) ≤ (m : Int) := by omega
  obtain ⟨i0, hi', hy0, hy1, hy2⟩ := info_parts infoRange
  go_enter Try.func64, Try.ntmps64
  go_wp2_with fail
  have ht0 : Hid ([.int .i64 lo0, .int .i64 hi0] = rngTo x m ways 1) := Lib.hid (by rw [rngTo_succ, hr0.out]; rfl)
  go_loopw [6, 7] (fun out i wr => ∃ (k : Nat) (vr : Value) (lo hi : Int), k ≤ ways.length ∧ i = .int .i64 k ∧ vr = out ∧ Hid (rngN x m ways k = (lo, hi)) ∧ Hid (wr.ownsRow (w.heap.size + 3) 33 2 vr (k + 1) (rngTo x m ways (k + 1))) ∧ Below w.heap.size w wr ∧
        Box wr w.heap.size 25 #[.slice (some ⟨b0, o0, none⟩) x.bars.length cb, .slice As x.steps.length cs] ∧ Box wr (w.heap.size + 1) 42 #[.int .i64 m, .slice Ar ways.length cr] ∧ Box wr (w.heap.size + 2) 33 #[.int .i64 lo, .int .i64 hi])
      (fun _ i _ => ways.length - (intOf i).toNat)
  case atStart =>
    refine ⟨0, _, lo0, hi0, by omega, rfl, rfl, hr0, Lib.hid ?_, bel, ?_, ?_, ?_⟩
    · rw [← ht0.out]
      exact own_first (Box.new' (by simp)) (by simp)
    all_goals exact bxt
  case round =>
    obtain ⟨k, vr, lo, hi, hk, rfl, rfl, hrk, hov, hbl, bw, br, bn⟩ := hrel
    obtain ⟨u5, u6, u7, u8⟩ := bw.two
    obtain ⟨t5, t6, t7, t8⟩ := br.two
    obtain ⟨n5, n6, n7, n8⟩ := bn.two
    have hz1 := bw.lt
    have hz2 := br.lt
    have hz3 := bn.lt
    by_cases hlt : k < ways.length
    · obtain ⟨b1, o1, b2, o2, b3, o3, A1, A2, c1, c2, ws, mm, ks, rfl, rfl, rfl, hb1', hb2', hb3', hm, f1, f2, f3, l1, l2, l3, l4, hks, hwo, hwe, hne0, _⟩ := way_at h.steps h.rways ok (i := k) (by have := hwl.out; omega)
      have f1' := (hbl.cell (p := ⟨b1, o1 + k, none⟩) (by simp only []; omega)).trans f1
      have f2' := (hbl.cell (p := ⟨b2, o2 + k, none⟩) (by simp only []; omega)).trans f2
      have f3' := (hbl.cell (p := ⟨b3, o3 + mm, none⟩) (by simp only []; omega)).trans f3
      have v1 : b1 < wr.heap.size := by omega
      have v2 : b2 < wr.heap.size := by omega
      have v3 : b3 < wr.heap.size := by omega
      have s7 : (k : Int) < (ways.length : Int) := by omega
      have s8 : (mm : Int) < (ws.length : Int) := by omega
      have s9 : (k : Int) < (x.steps.length : Int) := by have := hwl.out; omega
      have hrk1 : Hid (rngN x m ways (k + 1) = ((aft ks lo).1, (aft ks hi).2)) := Lib.hid (by show ((aft (wayOf x ways k) (rngN x m ways k).1).1, (aft (wayOf x ways k) (rngN x m ways k).2).2) = _; rw [hwo.out, hrk.out])
      clear hwe hwo
      go_wp2_with fail
      have hcells : ∀ V, Below wr.heap.size wr V → (V.cell? ⟨w.heap.size, 0 + 1, none⟩ = some (.slice (some ⟨b1, o1, none⟩) x.steps.length cs) ∧ V.cell? ⟨w.heap.size + 1, 0 + 1, none⟩ = some (.slice (some ⟨b2, o2, none⟩) ways.length cr) ∧
          V.cell? ⟨b1, o1 + k, none⟩ = some (.slice (some ⟨b3, o3, none⟩) ws.length c1) ∧ V.cell? ⟨b2, o2 + k, none⟩ = some (.int .i64 mm) ∧ V.cell? ⟨b3, o3 + mm, none⟩ = some (.slice A2 ks.length c2)) :=
        fun V hV => ⟨(Box.below bw hV hz1).cell 1, (Box.below br hV hz2).cell 1, (hV.cell (p := ⟨b1, o1 + k, none⟩) v1).trans f1', (hV.cell (p := ⟨b2, o2 + k, none⟩) v2).trans f2', (hV.cell (p := ⟨b3, o3 + mm, none⟩) v3).trans f3'⟩
      have HC := Lib.hid hcells
      clear hcells
      go_region_held3 (fun V => V.cell? ⟨w.heap.size, 0 + 1, none⟩ = some (.slice (some ⟨b1, o1, none⟩) x.steps.length cs) ∧ V.cell? ⟨w.heap.size + 1, 0 + 1, none⟩ = some (.slice (some ⟨b2, o2, none⟩) ways.length cr) ∧
          V.cell? ⟨b1, o1 + k, none⟩ = some (.slice (some ⟨b3, o3, none⟩) ws.length c1) ∧ V.cell? ⟨b2, o2 + k, none⟩ = some (.int .i64 mm) ∧ V.cell? ⟨b3, o3 + mm, none⟩ = some (.slice A2 ks.length c2)) ((exact HC.out _ bel)) (fail)
      go_wp2_with fail
      generalize hW0 : (wr.alloc (.cells #[.slice A2 ks.length c2] 28)).drew = W0
      have hbl0 : Below wr.heap.size wr W0 := by rw [← hW0]; exact bel
      have bk : Box W0 wr.heap.size 28 #[.slice A2 ks.length c2] := by rw [← hW0]; exact bxt
      have bw0 := Box.below bw hbl0 hz1
      have br0 := Box.below br hbl0 hz2
      have bn0 := Box.below bn hbl0 hz3
      have ho0 : Hid (W0.ownsRow (w.heap.size + 3) 33 2 vr (k + 1) (rngTo x m ways (k + 1))) := Lib.hid (own_later hov.out hbl0)
      clear hW0 f1 f2 f3 f1' f2' f3' u5 u6 u7 u8 t5 t6 t7 t8 n5 n6 n7 n8 HC
      obtain ⟨k5, k6⟩ := bk.one
      obtain ⟨n5, n6, n7, n8⟩ := bn0.two
      have hk0 := bk.lt
      have hn0 := bn0.lt
      have hzw := hbl0.size
      obtain ⟨a1, a2, hal⟩ : ∃ a1 a2, aft ks lo = (a1, a2) := ⟨_, _, rfl⟩
      obtain ⟨e1, e2, hah⟩ : ∃ a1 a2, aft ks hi = (a1, a2) := ⟨_, _, rfl⟩
      have hkl : ∀ n : Int, ∀ W : World, Below W0.heap.size W0 W → Calls Try.prog 55 #[.agg #[.slice A2 ks.length c2], .int .i64 n] W fun e w' => e = .returned (.agg #[.int .i64 (aft ks n).1, .int .i64 (aft ks n).2]) ∧ Below W.heap.size W w' :=
        fun n W hW => refAfter_any A2 c2 ks n B W (kinks_on hks (n := w.heap.size) (hbl.trans ((hbl0.trans (hW.mono hzw)).mono hbl.size)) hB) l3 l4 (by have := hW.size; omega) hne0
      have h1 := hkl lo
      have h2 := hkl hi
      rw [hal] at h1
      rw [hah] at h2
      have H1 := Lib.hid h1
      have H2 := Lib.hid h2
      have HN : Hid (rngN x m ways (k + 1) = (a1, e2)) := Lib.hid (by rw [hrk1.out, hal, hah])
      clear hkl h1 h2 hal hah hrk1
      refine wp_region_later_tail 11 (by kernel_rfl) (by kernel_rfl) ?_
      simp only [List.take_succ_cons, List.take_zero, List.drop_succ_cons, List.drop_zero]
      have _hl := later_reads W0
      (repeat (go_big_quiet_step ((go_at_call 55; exact LaterW.callsB (fun W hW => H1.out W hW)))))
      refine wpQuiet_field (.agg #[.int .i64 a1, .int .i64 a2]) (.int .i64 a1) rfl (run_field_lo a1 a2) ?_
      simp only [Act.put, List.setIfInBounds_toArray, List.set_cons_zero, List.set_cons_succ]
      (repeat (go_big_quiet_step ((go_at_call 55; exact LaterW.callsB (fun W hW => H2.out W hW)))))
      refine wpQuiet_field (.agg #[.int .i64 e1, .int .i64 e2]) (.int .i64 e2) rfl (run_field_hi e1 e2) ?_
      simp only [Act.put, List.setIfInBounds_toArray, List.set_cons_zero, List.set_cons_succ]
      (repeat (go_big_quiet_step ((go_at_call 55; exact LaterW.callsB (fun W hW => H2.out W hW)))))
      refine wpQuiet_nil ?_
      intro W1 hw'
      have hb_W1 := later_below hw'
      clear hw' _hl
      have bw1 := Box.below bw0 hb_W1 bw0.lt
      have br1 := Box.below br0 hb_W1 br0.lt
      have bn1 := Box.below bn0 hb_W1 bn0.lt
      have ho1 : Hid (W1.ownsRow (w.heap.size + 3) 33 2 vr (k + 1) (rngTo x m ways (k + 1))) := Lib.hid (own_later ho0.out hb_W1)
      have hb1 : Below w.heap.size w W1 := hbl.trans ((hbl0.trans (hb_W1.mono hzw)).mono hbl.size)
      clear bw br bn bw0 br0 bn0 bk k5 k6 n5 n6 n7 n8 hov ho0 hbl0 hb_W1 H1 H2 hks
      obtain ⟨n5, n6, n7, n8⟩ := bn1.two
      have hn1 := bn1.lt
      have ho2 : Hid (((W1.setCell ⟨w.heap.size + 1 + 1, 0, none⟩ (.int .i64 a1)).setCell ⟨w.heap.size + 1 + 1, 1, none⟩ (.int .i64 e2)).ownsRow (w.heap.size + 3) 33 2 vr (k + 1) (rngTo x m ways (k + 1))) :=
        Lib.hid (own_far (own_far ho1.out (by simp only []; omega) _) (by simp only []; omega) _)
      have hlk : Hid (k + 1 ≤ 7) := Lib.hid (by have := hwl.out; omega)
      go_wp2_with (refine wpList_append_own _ rfl (.tmp 48) (.tmp 50) 22 rfl (w.heap.size + 3) 33 i0 _ 2 16 Try.underlying22 hi' hy0 hy1 hy2 rfl (by decide) vr (k + 1) (rngTo x m ways (k + 1)) (by simp [Act.eval, Act.put]) (own_later ho2.out ((Below.refl _ _).alloc (Nat.le_refl _) _)) ⟨W1.heap.size, 0, none⟩ 1 1 [.int .i64 a1, .int .i64 e2] (by simp [Act.eval, Act.put]) rfl (cells_two_new _ _ _ _ _ (by simp)) (by simp [Value.oneCell']) (by have := hlk.out; simp [maxLen]; omega) (by have := hlk.out; omega) (by simp only [World.size_alloc, World.size_setCell]; omega) ?_; intro v' w' hown hgrow _; have HO := Lib.hid hown; have HGr := Lib.hid hgrow; clear hown hgrow)
      have hW2 : Below w.heap.size w (((W1.setCell ⟨w.heap.size + 1 + 1, 0, none⟩ (.int .i64 a1)).setCell ⟨w.heap.size + 1 + 1, 1, none⟩ (.int .i64 e2)).alloc (.cells #[.int .i64 a1, .int .i64 e2] 33)) := bel
      have ho3 : Hid ((((W1.setCell ⟨w.heap.size + 1 + 1, 0, none⟩ (.int .i64 a1)).setCell ⟨w.heap.size + 1 + 1, 1, none⟩ (.int .i64 e2)).alloc (.cells #[.int .i64 a1, .int .i64 e2] 33)).ownsRow (w.heap.size + 3) 33 2 vr (k + 1) (rngTo x m ways (k + 1))) :=
        Lib.hid (own_later ho2.out ((Below.refl _ _).alloc (Nat.le_refl _) _))
      have q1 : Box (((W1.setCell ⟨w.heap.size + 1 + 1, 0, none⟩ (.int .i64 a1)).setCell ⟨w.heap.size + 1 + 1, 1, none⟩ (.int .i64 e2)).alloc (.cells #[.int .i64 a1, .int .i64 e2] 33)) w.heap.size 25 #[.slice (some ⟨b0, o0, none⟩) x.bars.length cb, .slice (some ⟨b1, o1, none⟩) x.steps.length cs] := by exact bxt
      have q2 : Box (((W1.setCell ⟨w.heap.size + 1 + 1, 0, none⟩ (.int .i64 a1)).setCell ⟨w.heap.size + 1 + 1, 1, none⟩ (.int .i64 e2)).alloc (.cells #[.int .i64 a1, .int .i64 e2] 33)) (w.heap.size + 1) 42 #[.int .i64 m, .slice (some ⟨b2, o2, none⟩) ways.length cr] := by exact bxt
      have q3 : Box (((W1.setCell ⟨w.heap.size + 1 + 1, 0, none⟩ (.int .i64 a1)).setCell ⟨w.heap.size + 1 + 1, 1, none⟩ (.int .i64 e2)).alloc (.cells #[.int .i64 a1, .int .i64 e2] 33)) (w.heap.size + 2) 33 #[.int .i64 a1, .int .i64 e2] := by exact bxt
      go_roundw
      case rel =>
        refine ⟨k + 1, _, a1, e2, by omega, by go_num, rfl, HN, Lib.hid ?_, below_gb hW2 ho3.out HGr.out (by omega), box_keep_gb q1 ho3.out HGr.out (by omega), box_keep_gb q2 ho3.out HGr.out (by omega), box_keep_gb q3 ho3.out HGr.out (by omega)⟩
        rw [rngTo_succ, HN.out]
        exact HO.out
      case measure => simp [intOf]; omega
    · have hkn : k = x.steps.length := by have := hwl.out; omega
      subst hkn
      go_wp2_with fail
      go_ret
      exact ⟨_, rfl, Lib.hid (own_mono hov.out (by omega)), hbl⟩
theorem refranges_ok (Ab As Ar : Option Addr) (cb cs cr : Nat) (x : Works) (m : Nat) (ways : List Int) (B : Nat) (w : World) (h : In w B Ab As Ar cb cs cr x ways) (ok : RecOk x (m : Int) ways) :
    CallsF 64 #[.agg #[.slice Ab x.bars.length cb, .slice As x.steps.length cs], .agg #[.int .i64 m, .slice Ar ways.length cr]] w (Fact.rgs ((List.range (x.steps.length + 1)).map (rngN x m ways))) := by
  refine Calls.mono (refranges_own Ab As Ar cb cs cr x m ways B w h ok) ?_
  rintro e w' ⟨v, rfl, ho, hb⟩
  refine ⟨v, rfl, own_rgs (base := w.heap.size) (e := 33) ?_, hb⟩
  rw [List.length_map, List.length_range]
  exact ho.out
end Go.Proofs.Ytigpefjeelgfdaa

/-
  Walks of layer 1's reference: Ranges, CheckHistory.
-/
namespace Go.Proofs.Ytigpefjeelgfdaa
open Go.RowKit

/-- The list, or nothing where there is an error. -/
def orNil {α : Type} (r : Int) (l : List α) : List α := if r = 0 then l else []
theorem res_rgs {l : List Rg} {r : Int} {v : Value} {w : World} (h : (Fact.res (Fact.rgs l) r).holds v w) : (Fact.first (Fact.rgs (orNil r l)) (.int .i64 r)).holds v w := by
  obtain ⟨u, hu, h1, h2⟩ := h
  refine ⟨u, hu, ?_⟩
  unfold orNil
  split
  · exact h1 ‹_›
  · rw [h2 ‹_›]; exact SL.nil _ _ _ _
theorem res_ints {l : List Int} {r : Int} {v : Value} {w : World} (h : (Fact.res (Fact.ints l) r).holds v w) : (Fact.first (Fact.ints (orNil r l)) (.int .i64 r)).holds v w := by
  obtain ⟨u, hu, h1, h2⟩ := h
  refine ⟨u, hu, ?_⟩
  unfold orNil
  split
  · exact h1 ‹_›
  · rw [h2 ‹_›]; exact SL.nil _ _ _ _
theorem CallsF.imp {f : FuncId} {args : Array Value} {w : World} {F G : Fact} (h : CallsF f args w F) (hi : ∀ v w', F.holds v w' → G.holds v w') : CallsF f args w G :=
  Calls.mono h fun _ _ ⟨v, he, hv, hb⟩ => ⟨v, he, hi v _ hv, hb⟩

def rngsOf (x : Works) (bar : Int) (ways : List Int) : List Rg := (List.range (x.steps.length + 1)).map (rngN x bar.toNat ways)
theorem heatRanges_first {Ab As Ar : Option Addr} {cb cs cr : Nat} {x : Works} {bar : Int} {ways : List Int} {B : Nat} {w : World} (h : In w B Ab As Ar cb cs cr x ways) :
    CallsF 23 #[.agg #[.slice Ab x.bars.length cb, .slice As x.steps.length cs], .agg #[.int .i64 bar, .slice Ar ways.length cr]] w
      (Fact.first (Fact.rgs (orNil (recErr x bar ways) (rngsOf x bar ways))) (.int .i64 (recErr x bar ways))) := by
  refine (heatRanges_read h).imp fun v w' hv => ?_
  have h1 := res_rgs hv
  by_cases g : recErr x bar ways = 0
  · have ok := recOk_iff.1 g
    obtain ⟨m, hbar⟩ := Int.eq_ofNat_of_zero_le ok.bar0
    subst hbar
    have e := endsL_iv ok
    have e2 : endsL (rowOf x ways (barP x (m : Int).toNat)) (x.steps.length + 1) = rngsOf x m ways := e
    rw [e2] at h1
    exact h1
  · unfold orNil at h1 ⊢
    rw [if_neg g] at h1 ⊢
    exact h1

set_option maxHeartbeats 1000000 in
theorem refRanges_first {Ab As Ar : Option Addr} {cb cs cr : Nat} {x : Works} {bar : Int} {ways : List Int} {B : Nat} {w : World} (h : In w B Ab As Ar cb cs cr x ways) :
    CallsF 24 #[.agg #[.slice Ab x.bars.length cb, .slice As x.steps.length cs], .agg #[.int .i64 bar, .slice Ar ways.length cr]] w
      (Fact.first (Fact.rgs (orNil (recErr x bar ways) (rngsOf x bar ways))) (.int .i64 (recErr x bar ways))) := by
  have hB := h.le
  have hre : ∀ W : World, Below w.heap.size w W → Calls Try.prog 63 #[.agg #[.slice Ab x.bars.length cb, .slice As x.steps.length cs], .agg #[.int .i64 bar, .slice Ar ways.length cr]] W fun e w' => e = .returned (.int .i64 (recErr x bar ways)) ∧ Below W.heap.size W w' :=
    fun W hW => refIsRecipe_any Ab As Ar cb cs cr x bar ways B W (h.on hW hB)
  have HRE := Lib.hid hre
  clear hre
  by_cases g : recErr x bar ways = 0
  · have ok := recOk_iff.1 g
    obtain ⟨m, hbar⟩ := Int.eq_ofNat_of_zero_le ok.bar0
    subst hbar
    have hrr : ∀ W : World, Below w.heap.size w W → CallsF 64 #[.agg #[.slice Ab x.bars.length cb, .slice As x.steps.length cs], .agg #[.int .i64 m, .slice Ar ways.length cr]] W (Fact.rgs (rngsOf x m ways)) :=
      fun W hW => refranges_ok Ab As Ar cb cs cr x m ways B W (h.on hW hB) ok
    have HRR := Lib.hid hrr
    have G := Lib.hid g
    clear hrr g ok
    go_enter Try.func24, Try.ntmps24
    go_wp2_with (first
      | (go_at_call 63; refine (HRE.out _ bel).mono ?_; rintro e w1 ⟨rfl, hb1⟩; rw [G.out]; obtain ⟨_hr1, _hr2⟩ := below_reads hb1; have _hz := Below.size hb1; (try simp only [World.size_alloc, World.size_setCell, World.size_drew, World.heap_drewN] at _hz); obtain ⟨_hr3, _hr4⟩ := below_reads (show Below w.heap.size w w1 from bel); have _q0 : w.heap.size < w1.heap.size := (by omega); have _q1 : w.heap.size + 1 < w1.heap.size := (by omega))
      | (go_at_call 64; refine Calls.mono (HRR.out _ bel) ?_; rintro e w2 ⟨v2, rfl, hv2, hb2⟩; have HV2 := Lib.hid hv2; clear hv2; obtain ⟨_hr1, _hr2⟩ := below_reads hb2; have _hz := Below.size hb2; (try simp only [World.size_alloc, World.size_setCell, World.size_drew, World.heap_drewN] at _hz); obtain ⟨_hr3, _hr4⟩ := below_reads (show Below w.heap.size w w2 from bel); have _q0 : w.heap.size < w2.heap.size := (by omega); have _q1 : w.heap.size + 1 < w2.heap.size := (by omega)))
    refine bodyPost_ret (v := .tuple #[v2, .int .i64 0]) (by simp [results, Try.results24, go_sem, *]) rfl ?_
    refine ⟨_, rfl, ⟨v2, by rw [G.out], ?_⟩, bel⟩
    rw [G.out]
    exact HV2.out
  · have g' : (recErr x bar ways != 0) = true := by simp [g]
    have G := Lib.hid g
    clear g
    go_enter Try.func24, Try.ntmps24
    go_wp2_with fail
    refine (HRE.out _ bel).mono ?_
    rintro e w1 ⟨rfl, hb1⟩
    obtain ⟨_hr1, _hr2⟩ := below_reads hb1; have _hz := Below.size hb1; (try simp only [World.size_alloc, World.size_setCell, World.size_drew, World.heap_drewN] at _hz); obtain ⟨_hr3, _hr4⟩ := below_reads (show Below w.heap.size w w1 from bel); have _q0 : w.heap.size < w1.heap.size := (by omega); have _q1 : w.heap.size + 1 < w1.heap.size := (by omega)
    go_wp2_with fail
    refine (HRE.out _ bel).mono ?_
    rintro e w2 ⟨rfl, hb2⟩
    have _q0 : w.heap.size < w2.heap.size := by have := hb2.size; omega
    have _q1 : w.heap.size + 1 < w2.heap.size := by have := hb2.size; omega
    go_wp2_with fail
    refine bodyPost_ret (v := .tuple #[.slice none 0 0, .int .i64 (recErr x bar ways)]) (by simp [results, Try.results24, go_sem, *]) rfl ?_
    refine ⟨_, rfl, ⟨_, rfl, ?_⟩, bel⟩
    unfold orNil
    rw [if_neg G.out]
    exact SL.nil _ _ _ _

set_option maxHeartbeats 1000000 in
theorem refCheckHistory_any (Ab As Ar Ah : Option Addr) (cb cs cr ch : Nat) (x : Works) (bar : Int) (ways hist : List Int) (B : Nat) (w : World) (h : In w B Ab As Ar cb cs cr x ways)
    (hh : IntsA .i64 w B Ah hist) (ch1 : hist.length ≤ ch) (ch2 : ch ≤ 9223372036854775807) :
    Calls Try.prog 27 #[.agg #[.slice Ab x.bars.length cb, .slice As x.steps.length cs], .agg #[.int .i64 bar, .slice Ar ways.length cr], .slice Ah hist.length ch] w
      fun e w' => e = .returned (.int .i64 (histErr x bar ways hist)) ∧ Below w.heap.size w w' := by
  have hB := h.le
  have hre : ∀ W : World, Below w.heap.size w W → Calls Try.prog 63 #[.agg #[.slice Ab x.bars.length cb, .slice As x.steps.length cs], .agg #[.int .i64 bar, .slice Ar ways.length cr]] W fun e w' => e = .returned (.int .i64 (recErr x bar ways)) ∧ Below W.heap.size W w' :=
    fun W hW => refIsRecipe_any Ab As Ar cb cs cr x bar ways B W (h.on hW hB)
  have HRE := Lib.hid hre
  clear hre
  by_cases g : recErr x bar ways = 0
  · by_cases g2 : hist.length = x.steps.length + 1
    · exact refCheckHistory_ok Ab As Ar Ah cb cs cr ch x bar ways hist B w h hh ch1 ch2 (Lib.hid g) (Lib.hid g2)
    · have R : Hid (histErr x bar ways hist = 15) := histErr_len g g2
      have hs6 := steps_few (recOk_iff.1 g).works
      have G := Lib.hid g
      have hs : IntKind.i64.wrap ((x.steps.length : Int) + 1) = (x.steps.length : Int) + 1 := IntWalk.i64_in _ (by omega)
      have g3 : ((hist.length : Int) != (x.steps.length : Int) + 1) = true := by simp; omega
      clear g g2
      go_enter Try.func27, Try.ntmps27
      go_wp2_with (go_at_call 63; refine (HRE.out _ bel).mono ?_; rintro e w1 ⟨rfl, hb1⟩; rw [G.out]; obtain ⟨_hr1, _hr2⟩ := below_reads hb1; have _hz := Below.size hb1; (try simp only [World.size_alloc, World.size_setCell, World.size_drew, World.heap_drewN] at _hz); obtain ⟨_hr3, _hr4⟩ := below_reads (show Below w.heap.size w w1 from bel); have _q0 : w.heap.size < w1.heap.size := (by omega); have _q1 : w.heap.size + 1 < w1.heap.size := (by omega))
      go_ret
      exact ⟨ret_int R.out.symm, bel⟩
  · have R : Hid (histErr x bar ways hist = recErr x bar ways) := histErr_rec g
    have g' : (recErr x bar ways != 0) = true := by simp [g]
    clear g
    go_enter Try.func27, Try.ntmps27
    go_wp2_with fail
    refine (HRE.out _ bel).mono ?_
    rintro e w1 ⟨rfl, hb1⟩
    obtain ⟨_hr1, _hr2⟩ := below_reads hb1; have _hz := Below.size hb1; (try simp only [World.size_alloc, World.size_setCell, World.size_drew, World.heap_drewN] at _hz); obtain ⟨_hr3, _hr4⟩ := below_reads (show Below w.heap.size w w1 from bel); have _q0 : w.heap.size < w1.heap.size := (by omega); have _q1 : w.heap.size + 1 < w1.heap.size := (by omega)
    go_wp2_with fail
    refine (HRE.out _ bel).mono ?_
    rintro e w2 ⟨rfl, hb2⟩
    have _q0 : w.heap.size < w2.heap.size := by have := hb2.size; omega
    have _q1 : w.heap.size + 1 < w2.heap.size := by have := hb2.size; omega
    go_wp2_with fail
    go_ret
    exact ⟨ret_int R.out.symm, bel⟩
end Go.Proofs.Ytigpefjeelgfdaa

/-
  Walks of layer 1's statements: the works of the chapter's examples.
-/
namespace Go.Proofs.Ytigpefjeelgfdaa
open Go.RowKit

def houseX : Works := ⟨[(100, 170), (150, 300)], [[[⟨0, 400, 500⟩, ⟨180, 450, 600⟩], [⟨0, 300, 650⟩]], [[⟨0, 200, 300⟩, ⟨420, 280, 400⟩, ⟨550, 350, 480⟩]]]⟩
def RetHouse (w : World) (e : Ending) (w' : World) : Prop :=
  ∃ (Ab As : Option Addr) (cb cs : Nat), e = .returned (.agg #[.slice Ab houseX.bars.length cb, .slice As houseX.steps.length cs]) ∧ In w' w'.heap.size Ab As none cb cs 0 houseX [] ∧ Below w.heap.size w w'

theorem box_kinks {V : World} {p : Nat} {t : TypeId} {ks : List Kink} (h : Box V p t (ks.flatMap fun k => [Value.int .i64 k.frm, .int .i64 k.lo, .int .i64 k.hi]).toArray) : KinksA V V.heap.size (some ⟨p, 0, none⟩) ks := fun _ =>
  ⟨p, 0, rfl, h.lt, fun i x hi => by
    have hg := fun j hj => flatMap_get (fun k : Kink => [Value.int .i64 k.frm, .int .i64 k.lo, .int .i64 k.hi]) 3 (fun _ => rfl) ks i j x hi hj
    refine ⟨?_, ?_, ?_⟩
    · rw [h.cell]; simpa using hg 0 (by omega)
    · rw [h.cell]; simpa using hg 1 (by omega)
    · rw [h.cell]; simpa using hg 2 (by omega)⟩
theorem house_in {V : World} {p1 p2 p3 p4 p5 pb ps : Nat} (B1 : Box V p1 93 #[.int .i64 0, .int .i64 400, .int .i64 500, .int .i64 180, .int .i64 450, .int .i64 600]) (B2 : Box V p2 93 #[.int .i64 0, .int .i64 300, .int .i64 650])
    (B3 : Box V p3 28 #[.slice (some ⟨p1, 0, none⟩) 2 2, .slice (some ⟨p2, 0, none⟩) 1 1]) (B4 : Box V p4 93 #[.int .i64 0, .int .i64 200, .int .i64 300, .int .i64 420, .int .i64 280, .int .i64 400, .int .i64 550, .int .i64 350, .int .i64 480])
    (B5 : Box V p5 28 #[.slice (some ⟨p4, 0, none⟩) 3 3]) (Bb : Box V pb 33 #[.int .i64 100, .int .i64 170, .int .i64 150, .int .i64 300]) (Bs : Box V ps 88 #[.slice (some ⟨p3, 0, none⟩) 2 2, .slice (some ⟨p5, 0, none⟩) 1 1]) :
    In V V.heap.size (some ⟨pb, 0, none⟩) (some ⟨ps, 0, none⟩) none 2 2 0 houseX [] := by
  have k1 : Kinks V V.heap.size (.slice (some ⟨p1, 0, none⟩) 2 2) [⟨0, 400, 500⟩, ⟨180, 450, 600⟩] := ⟨_, 2, rfl, by simp, by omega, box_kinks B1⟩
  have k2 : Kinks V V.heap.size (.slice (some ⟨p2, 0, none⟩) 1 1) [⟨0, 300, 650⟩] := ⟨_, 1, rfl, by simp, by omega, box_kinks B2⟩
  have k4 : Kinks V V.heap.size (.slice (some ⟨p4, 0, none⟩) 3 3) [⟨0, 200, 300⟩, ⟨420, 280, 400⟩, ⟨550, 350, 480⟩] := ⟨_, 3, rfl, by simp, by omega, box_kinks B4⟩
  have w3 : WaysIn V V.heap.size (.slice (some ⟨p3, 0, none⟩) 2 2) [[⟨0, 400, 500⟩, ⟨180, 450, 600⟩], [⟨0, 300, 650⟩]] :=
    ⟨_, 2, rfl, by simp, by omega, fun _ => ⟨p3, 0, rfl, B3.lt, fun i x hi => by
      rcases i with _ | _ | i
      · simp at hi; subst hi; exact ⟨_, B3.cell 0, k1⟩
      · simp at hi; subst hi; exact ⟨_, B3.cell 1, k2⟩
      · simp at hi⟩⟩
  have w5 : WaysIn V V.heap.size (.slice (some ⟨p5, 0, none⟩) 1 1) [[⟨0, 200, 300⟩, ⟨420, 280, 400⟩, ⟨550, 350, 480⟩]] :=
    ⟨_, 1, rfl, by simp, by omega, fun _ => ⟨p5, 0, rfl, B5.lt, fun i x hi => by
      rcases i with _ | i
      · simp at hi; subst hi; exact ⟨_, B5.cell 0, k4⟩
      · simp at hi⟩⟩
  refine ⟨fun _ => ⟨pb, 0, rfl, Bb.lt, fun i x hi => ?_⟩, fun _ => ⟨ps, 0, rfl, Bs.lt, fun i x hi => ?_⟩, fun h => absurd h (by simp), by simp [houseX], by omega, by simp [houseX], by omega, by simp, by omega, Nat.le_refl _⟩
  · rcases i with _ | _ | i
    · simp [houseX] at hi; subst hi; exact ⟨Bb.cell 0, Bb.cell 1⟩
    · simp [houseX] at hi; subst hi; exact ⟨Bb.cell 2, Bb.cell 3⟩
    · simp [houseX] at hi
  · rcases i with _ | _ | i
    · simp [houseX] at hi; subst hi; exact ⟨_, Bs.cell 0, w3⟩
    · simp [houseX] at hi; subst hi; exact ⟨_, Bs.cell 1, w5⟩
    · simp [houseX] at hi

theorem house_end {w W V : World} {p1 p2 p3 p4 p5 pb ps : Nat} (hw0 : Below w.heap.size w W) (g : Below W.heap.size W V) (e1 : w.heap.size < p1) (e2 : w.heap.size < p2) (e3 : w.heap.size < p3) (e4 : w.heap.size < p4) (e5 : w.heap.size < p5)
    (B1 : Box V p1 93 #[.int .i64 0, .int .i64 400, .int .i64 500, .int .i64 180, .int .i64 450, .int .i64 600]) (B2 : Box V p2 93 #[.int .i64 0, .int .i64 300, .int .i64 650])
    (B3 : Box V p3 28 #[.slice (some ⟨p1, 0, none⟩) 2 2, .slice (some ⟨p2, 0, none⟩) 1 1]) (B4 : Box V p4 93 #[.int .i64 0, .int .i64 200, .int .i64 300, .int .i64 420, .int .i64 280, .int .i64 400, .int .i64 550, .int .i64 350, .int .i64 480])
    (B5 : Box V p5 28 #[.slice (some ⟨p4, 0, none⟩) 3 3]) (Bb : Box V pb 33 #[.int .i64 100, .int .i64 170, .int .i64 150, .int .i64 300]) (Bs : Box V ps 88 #[.slice (some ⟨p3, 0, none⟩) 2 2, .slice (some ⟨p5, 0, none⟩) 1 1])
    (q0 : w.heap.size < W.heap.size) (hb : W.heap.size ≤ pb) (hs : W.heap.size ≤ ps) {u1 u2 : Value} :
    RetHouse w (.returned (.agg #[.slice (some ⟨pb, 0, none⟩) 2 2, .slice (some ⟨ps, 0, none⟩) 2 2])) ((V.setCell ⟨w.heap.size, 0, none⟩ u1).setCell ⟨w.heap.size, 1, none⟩ u2) := by
  have far : ∀ {p : Nat} {t : TypeId} {cs : Array Value}, Box V p t cs → w.heap.size ≠ p → Box ((V.setCell ⟨w.heap.size, 0, none⟩ u1).setCell ⟨w.heap.size, 1, none⟩ u2) p t cs := fun h hne => Box.far (Box.far h (fun e => hne e.symm) _) (fun e => hne e.symm) _
  refine ⟨_, _, 2, 2, rfl, house_in (far B1 (by omega)) (far B2 (by omega)) (far B3 (by omega)) (far B4 (by omega)) (far B5 (by omega)) (far Bb (by omega)) (far Bs (by omega)), ?_⟩
  exact ((hw0.trans (g.mono (Nat.le_of_lt q0))).setCell (p := ⟨w.heap.size, 0, none⟩) (Nat.le_refl _) _).setCell (p := ⟨w.heap.size, 1, none⟩) (Nat.le_refl _) _

set_option maxRecDepth 100000 in
set_option maxHeartbeats 2000000 in
theorem house_any (w : World) : Calls Try.prog 52 #[] w (RetHouse w) := by
  go_enter Try.func52, Try.ntmps52
  go_wp2_with (first
    | (go_at_call 86; refine (kink_any _ _ _ _).mono ?_; rintro e k1 ⟨rfl, hk1⟩)
    | (go_at_call 85; refine (way_laid _ _ _ _ rfl _).mono ?_; rintro e y1 ⟨rfl, hy1⟩)
    | (go_at_call 84; refine (step_laid _ _ _ _ rfl _).mono ?_; rintro e s1 ⟨rfl, hs1⟩))
  rename_i ka ha kb hb ya hya kc hc yb hyb sa hsa kd hd ke he kK hK
  have z0 := ha.size
  have z1 := hb.size
  have z2 := hya.size
  have z3 := hc.size
  have z4 := hyb.size
  have z5 := hsa.size
  have z6 := hd.size
  have z7 := he.size
  have z8 := hk1.size
  have z9 := hy1.size
  have z10 := hs1.size
  simp only [World.size_alloc] at z0 z1 z2 z3 z4 z5 z6 z7 z8 z9 z10
  have hw0 : Below w.heap.size w (s1.alloc (.cells #[.slice (some ⟨y1.heap.size, 0, none⟩) 1 1] 88)) := bel
  have B1 : Box (s1.alloc (.cells #[.slice (some ⟨y1.heap.size, 0, none⟩) 1 1] 88)) kb.heap.size 93 #[.int .i64 0, .int .i64 400, .int .i64 500, .int .i64 180, .int .i64 450, .int .i64 600] := by exact bxt
  have B2 : Box (s1.alloc (.cells #[.slice (some ⟨y1.heap.size, 0, none⟩) 1 1] 88)) kc.heap.size 93 #[.int .i64 0, .int .i64 300, .int .i64 650] := by exact bxt
  have B3 : Box (s1.alloc (.cells #[.slice (some ⟨y1.heap.size, 0, none⟩) 1 1] 88)) yb.heap.size 28 #[.slice (some ⟨kb.heap.size, 0, none⟩) 2 2, .slice (some ⟨kc.heap.size, 0, none⟩) 1 1] := by exact bxt
  have B4 : Box (s1.alloc (.cells #[.slice (some ⟨y1.heap.size, 0, none⟩) 1 1] 88)) k1.heap.size 93 #[.int .i64 0, .int .i64 200, .int .i64 300, .int .i64 420, .int .i64 280, .int .i64 400, .int .i64 550, .int .i64 350, .int .i64 480] := by exact bxt
  have B5 : Box (s1.alloc (.cells #[.slice (some ⟨y1.heap.size, 0, none⟩) 1 1] 88)) y1.heap.size 28 #[.slice (some ⟨k1.heap.size, 0, none⟩) 3 3] := by exact bxt
  have B6 : Box (s1.alloc (.cells #[.slice (some ⟨y1.heap.size, 0, none⟩) 1 1] 88)) sa.heap.size 88 #[.slice (some ⟨yb.heap.size, 0, none⟩) 2 2] := by exact bxt
  have B7 : Box (s1.alloc (.cells #[.slice (some ⟨y1.heap.size, 0, none⟩) 1 1] 88)) s1.heap.size 88 #[.slice (some ⟨y1.heap.size, 0, none⟩) 1 1] := Box.new _ _ _
  have B0 : Box (s1.alloc (.cells #[.slice (some ⟨y1.heap.size, 0, none⟩) 1 1] 88)) w.heap.size 25 #[.slice none 0 0, .slice none 0 0] := by exact bxt
  have e1 : w.heap.size < kb.heap.size := by omega
  have e2 : w.heap.size < kc.heap.size := by omega
  have e3 : w.heap.size < yb.heap.size := by omega
  have e4 : w.heap.size < k1.heap.size := by omega
  have e5 : w.heap.size < y1.heap.size := by omega
  have e6 : w.heap.size < sa.heap.size := by omega
  have e7 : w.heap.size < s1.heap.size := by omega
  generalize s1.alloc (.cells #[.slice (some ⟨y1.heap.size, 0, none⟩) 1 1] 88) = W at hw0 B0 B1 B2 B3 B4 B5 B6 B7 ⊢
  generalize kb.heap.size = p1 at e1 B1 B3 ⊢
  generalize kc.heap.size = p2 at e2 B2 B3 ⊢
  generalize yb.heap.size = p3 at e3 B3 B6 ⊢
  generalize k1.heap.size = p4 at e4 B4 B5 ⊢
  generalize y1.heap.size = p5 at e5 B5 B7 ⊢
  generalize sa.heap.size = p6 at e6 B6 ⊢
  generalize s1.heap.size = p7 at e7 B7 ⊢
  clear ha hb hya hc hyb hsa hd he hk1 hy1 hs1 z0 z1 z2 z3 z4 z5 z6 z7 z8 z9 z10
  have q6 := B6.lt
  have q7 := B7.lt
  have q0 := B0.lt
  obtain ⟨c6, f6⟩ := B6.one
  obtain ⟨c7, f7⟩ := B7.one
  obtain ⟨c0, c1, f0, f1⟩ := B0.two
  have hw0d : Below w.heap.size w W.drew := hw0.drew
  refine wp_region_held_drew (S := fun w' => w'.cell? ⟨p6, 0, none⟩ = some (.slice (some ⟨p3, 0, none⟩) 2 2) ∧ w'.cell? ⟨p7, 0, none⟩ = some (.slice (some ⟨p5, 0, none⟩) 1 1)) (by kernel_rfl) ⟨c6, c7⟩ (fun _ => ?_)
  have hS : ∀ V, Below W.heap.size W V → V.cell? ⟨p6, 0, none⟩ = some (.slice (some ⟨p3, 0, none⟩) 2 2) ∧ V.cell? ⟨p7, 0, none⟩ = some (.slice (some ⟨p5, 0, none⟩) 1 1) := fun V hV => ⟨(Box.below B6 hV q6).cell 0, (Box.below B7 hV q7).cell 0⟩
  have HS := Lib.hid hS
  clear hS
  refine wpAnyH_take (i := 3) (v := ?_) rfl (by kernel_rfl) (by kernel_rfl) (by kernel_rfl) (fun _ _ _ h => h) (Or.inl ⟨by rfl, ?_⟩) (by assumption) ?_; rotate_left; (focus (intro _w _hSw; obtain ⟨_c1, _c2⟩ := _hSw; (try simp only [Array.getInternal_eq_getElem, List.getElem_toArray, List.getElem_cons_zero, List.getElem_cons_succ]); go_simp; (try with_reducible rfl))); simp only [Array.getInternal_eq_getElem, List.getElem_toArray, List.getElem_cons_zero, List.getElem_cons_succ, Act.put, List.setIfInBounds_toArray, List.set_cons_zero, List.set_cons_succ]
  refine wpAnyH_take (i := 4) (v := ?_) rfl (by kernel_rfl) (by kernel_rfl) (by kernel_rfl) (fun _ _ _ h => h) (Or.inl ⟨by rfl, ?_⟩) (by assumption) ?_; rotate_left; (focus (intro _w _hSw; obtain ⟨_c1, _c2⟩ := _hSw; (try simp only [Array.getInternal_eq_getElem, List.getElem_toArray, List.getElem_cons_zero, List.getElem_cons_succ]); go_simp; (try with_reducible rfl))); simp only [Array.getInternal_eq_getElem, List.getElem_toArray, List.getElem_cons_zero, List.getElem_cons_succ, Act.put, List.setIfInBounds_toArray, List.set_cons_zero, List.set_cons_succ]
  have gd : Below W.heap.size W W.drew := (Below.refl _ _).drew
  refine wpAnyH_ready (rs := [0, 5]) (by kernel_rfl) (by simp) ?_
  refine AllReadyH.cons rfl (fun K hK => ?_) (AllReadyH.cons rfl (fun K hK => ?_) AllReadyH.nil)
  · try simp only [Array.getInternal_eq_getElem, List.getElem_toArray, List.getElem_cons_zero, List.getElem_cons_succ]; go_simp
    refine (rg_any 100 170 _).mono ?_
    rintro e v1 ⟨rfl, hv1⟩
    have gv1 : Below W.heap.size W v1 := gd.trans (hv1.mono gd.size)
    refine hK.out _ _ (HS.out _ gv1) (fun _ => ?_); clear hK; try simp only [Act.put, List.setIfInBounds_toArray, List.set_cons_zero, List.set_cons_succ]
    refine wpAnyH_ready (rs := [1, 5]) (by kernel_rfl) (by simp) ?_
    refine AllReadyH.cons rfl (fun K hK => ?_) (AllReadyH.cons rfl (fun K hK => ?_) AllReadyH.nil)
    · try simp only [Array.getInternal_eq_getElem, List.getElem_toArray, List.getElem_cons_zero, List.getElem_cons_succ]; go_simp
      refine (rg_any 150 300 _).mono ?_
      rintro e v2 ⟨rfl, hv2⟩
      have gv2 : Below W.heap.size W v2 := gv1.trans (hv2.mono gv1.size)
      refine hK.out _ _ (HS.out _ gv2) (fun _ => ?_); clear hK; try simp only [Act.put, List.setIfInBounds_toArray, List.set_cons_zero, List.set_cons_succ]
      refine wpAnyH_ready (rs := [2, 5]) (by kernel_rfl) (by simp) ?_
      refine AllReadyH.cons rfl (fun K hK => ?_) (AllReadyH.cons rfl (fun K hK => ?_) AllReadyH.nil)
      · try simp only [Array.getInternal_eq_getElem, List.getElem_toArray, List.getElem_cons_zero, List.getElem_cons_succ]; go_simp
        have gv3 : Below W.heap.size W (v2.alloc (.cells #[.int .i64 100, .int .i64 170, .int .i64 150, .int .i64 300] 33)) := gv2.alloc gv2.size _
        refine hK.out _ _ (HS.out _ gv3) (fun _ => ?_); clear hK; try simp only [Act.put, List.setIfInBounds_toArray, List.set_cons_zero, List.set_cons_succ]
        refine wpAnyH_ready (rs := [5]) (by kernel_rfl) (by simp) ?_
        refine AllReadyH.cons rfl (fun K hK => ?_) AllReadyH.nil
        try simp only [Array.getInternal_eq_getElem, List.getElem_toArray, List.getElem_cons_zero, List.getElem_cons_succ]; go_simp
        have gv4 : Below W.heap.size W ((v2.alloc (.cells #[.int .i64 100, .int .i64 170, .int .i64 150, .int .i64 300] 33)).alloc (.cells #[.slice (some ⟨p3, 0, none⟩) 2 2, .slice (some ⟨p5, 0, none⟩) 1 1] 88)) := gv3.alloc gv3.size _
        refine hK.out _ _ (HS.out _ gv4) (fun _ => ?_); clear hK; try simp only [Act.put, List.setIfInBounds_toArray, List.set_cons_zero, List.set_cons_succ]
        have B0x := Box.below B0 gv4 q0
        obtain ⟨d0, d1, g0, g1⟩ := B0x.two
        refine wpAnyH_take (i := 6) (v := ?_) rfl (by kernel_rfl) (by kernel_rfl) (by kernel_rfl) (fun _ _ _ h => h) (Or.inl ⟨by rfl, ?_⟩) (by assumption) ?_; rotate_left; (focus (intro _w _hSw; obtain ⟨_c1, _c2⟩ := _hSw; (try simp only [Array.getInternal_eq_getElem, List.getElem_toArray, List.getElem_cons_zero, List.getElem_cons_succ]); go_simp; (try with_reducible rfl))); simp only [Array.getInternal_eq_getElem, List.getElem_toArray, List.getElem_cons_zero, List.getElem_cons_succ, Act.put, List.setIfInBounds_toArray, List.set_cons_zero, List.set_cons_succ]
        refine wpAnyH_ready (rs := [7]) (by kernel_rfl) (by simp) ?_; refine AllReadyH.cons rfl (fun K hK => ?_) AllReadyH.nil; (try simp only [Array.getInternal_eq_getElem, List.getElem_toArray, List.getElem_cons_zero, List.getElem_cons_succ])
        go_simp
        have hfin := house_end (pb := v2.heap.size) (ps := v2.heap.size + 1) hw0 gv4 e1 e2 e3 e4 e5 (Box.below B1 gv4 B1.lt) (Box.below B2 gv4 B2.lt) (Box.below B3 gv4 B3.lt) (Box.below B4 gv4 B4.lt) (Box.below B5 gv4 B5.lt) (Box.alloc (Box.new' (by first | rfl | (simp; done))) _) (Box.new' (by first | rfl | (simp; done))) q0 (by have := gv2.size; first | exact this | (simp at this ⊢; try omega)) (by have := gv3.size; first | exact this | (simp at this ⊢; try omega)) (u1 := .slice (some ⟨v2.heap.size, 0, none⟩) 2 2) (u2 := .slice (some ⟨v2.heap.size + 1, 0, none⟩) 2 2)
        refine hK.out _ _ ⟨(Box.far (Box.far (Box.below B6 gv4 q6) (by show p6 ≠ w.heap.size; omega) _) (by show p6 ≠ w.heap.size; omega) _).cell 0, (Box.far (Box.far (Box.below B7 gv4 q7) (by show p7 ≠ w.heap.size; omega) _) (by show p7 ≠ w.heap.size; omega) _).cell 0⟩ (fun _ => ?_)
        clear hK
        try simp only [Act.put, List.setIfInBounds_toArray, List.set_cons_zero, List.set_cons_succ]
        refine wpAnyH_done (by kernel_rfl) ?_ _
        have B0y := Box.set_ (Box.set_ B0x 0 (.slice (some ⟨v2.heap.size, 0, none⟩) 2 2)) 1 (.slice (some ⟨v2.heap.size + 1, 0, none⟩) 2 2)
        obtain ⟨j0, j1, _, _⟩ := Box.two (Box.cast B0y (cs' := #[.slice (some ⟨v2.heap.size, 0, none⟩) 2 2, .slice (some ⟨v2.heap.size + 1, 0, none⟩) 2 2]) rfl)
        clear d0 d1 g0 g1
        go_wp2_with fail
        refine bodyPost_ret (v := .agg #[.slice (some ⟨v2.heap.size, 0, none⟩) 2 2, .slice (some ⟨v2.heap.size + 1, 0, none⟩) 2 2]) (by simp [results, Try.results52, go_sem, *]) rfl ?_
        exact hfin
      · try simp only [Array.getInternal_eq_getElem, List.getElem_toArray, List.getElem_cons_zero, List.getElem_cons_succ]; go_simp
        have gv5 : Below W.heap.size W (v2.alloc (.cells #[.slice (some ⟨p3, 0, none⟩) 2 2, .slice (some ⟨p5, 0, none⟩) 1 1] 88)) := gv2.alloc gv2.size _
        refine hK.out _ _ (HS.out _ gv5) (fun _ => ?_); clear hK; try simp only [Act.put, List.setIfInBounds_toArray, List.set_cons_zero, List.set_cons_succ]
        refine wpAnyH_ready (rs := [2]) (by kernel_rfl) (by simp) ?_
        refine AllReadyH.cons rfl (fun K hK => ?_) AllReadyH.nil
        try simp only [Array.getInternal_eq_getElem, List.getElem_toArray, List.getElem_cons_zero, List.getElem_cons_succ]; go_simp
        have gv6 : Below W.heap.size W ((v2.alloc (.cells #[.slice (some ⟨p3, 0, none⟩) 2 2, .slice (some ⟨p5, 0, none⟩) 1 1] 88)).alloc (.cells #[.int .i64 100, .int .i64 170, .int .i64 150, .int .i64 300] 33)) := gv5.alloc gv5.size _
        refine hK.out _ _ (HS.out _ gv6) (fun _ => ?_); clear hK; try simp only [Act.put, List.setIfInBounds_toArray, List.set_cons_zero, List.set_cons_succ]
        have B0x := Box.below B0 gv6 q0
        obtain ⟨d0, d1, g0, g1⟩ := B0x.two
        refine wpAnyH_take (i := 6) (v := ?_) rfl (by kernel_rfl) (by kernel_rfl) (by kernel_rfl) (fun _ _ _ h => h) (Or.inl ⟨by rfl, ?_⟩) (by assumption) ?_; rotate_left; (focus (intro _w _hSw; obtain ⟨_c1, _c2⟩ := _hSw; (try simp only [Array.getInternal_eq_getElem, List.getElem_toArray, List.getElem_cons_zero, List.getElem_cons_succ]); go_simp; (try with_reducible rfl))); simp only [Array.getInternal_eq_getElem, List.getElem_toArray, List.getElem_cons_zero, List.getElem_cons_succ, Act.put, List.setIfInBounds_toArray, List.set_cons_zero, List.set_cons_succ]
        refine wpAnyH_ready (rs := [7]) (by kernel_rfl) (by simp) ?_; refine AllReadyH.cons rfl (fun K hK => ?_) AllReadyH.nil; (try simp only [Array.getInternal_eq_getElem, List.getElem_toArray, List.getElem_cons_zero, List.getElem_cons_succ])
        go_simp
        have hfin := house_end (pb := v2.heap.size + 1) (ps := v2.heap.size) hw0 gv6 e1 e2 e3 e4 e5 (Box.below B1 gv6 B1.lt) (Box.below B2 gv6 B2.lt) (Box.below B3 gv6 B3.lt) (Box.below B4 gv6 B4.lt) (Box.below B5 gv6 B5.lt) (Box.new' (by first | rfl | (simp; done))) (Box.alloc (Box.new' (by first | rfl | (simp; done))) _) q0 (by have := gv5.size; first | exact this | (simp at this ⊢; try omega)) (by have := gv2.size; first | exact this | (simp at this ⊢; try omega)) (u1 := .slice (some ⟨v2.heap.size + 1, 0, none⟩) 2 2) (u2 := .slice (some ⟨v2.heap.size, 0, none⟩) 2 2)
        refine hK.out _ _ ⟨(Box.far (Box.far (Box.below B6 gv6 q6) (by show p6 ≠ w.heap.size; omega) _) (by show p6 ≠ w.heap.size; omega) _).cell 0, (Box.far (Box.far (Box.below B7 gv6 q7) (by show p7 ≠ w.heap.size; omega) _) (by show p7 ≠ w.heap.size; omega) _).cell 0⟩ (fun _ => ?_)
        clear hK
        try simp only [Act.put, List.setIfInBounds_toArray, List.set_cons_zero, List.set_cons_succ]
        refine wpAnyH_done (by kernel_rfl) ?_ _
        have B0y := Box.set_ (Box.set_ B0x 0 (.slice (some ⟨v2.heap.size + 1, 0, none⟩) 2 2)) 1 (.slice (some ⟨v2.heap.size, 0, none⟩) 2 2)
        obtain ⟨j0, j1, _, _⟩ := Box.two (Box.cast B0y (cs' := #[.slice (some ⟨v2.heap.size + 1, 0, none⟩) 2 2, .slice (some ⟨v2.heap.size, 0, none⟩) 2 2]) rfl)
        clear d0 d1 g0 g1
        go_wp2_with fail
        refine bodyPost_ret (v := .agg #[.slice (some ⟨v2.heap.size + 1, 0, none⟩) 2 2, .slice (some ⟨v2.heap.size, 0, none⟩) 2 2]) (by simp [results, Try.results52, go_sem, *]) rfl ?_
        exact hfin
    · try simp only [Array.getInternal_eq_getElem, List.getElem_toArray, List.getElem_cons_zero, List.getElem_cons_succ]; go_simp
      have gv7 : Below W.heap.size W (v1.alloc (.cells #[.slice (some ⟨p3, 0, none⟩) 2 2, .slice (some ⟨p5, 0, none⟩) 1 1] 88)) := gv1.alloc gv1.size _
      refine hK.out _ _ (HS.out _ gv7) (fun _ => ?_); clear hK; try simp only [Act.put, List.setIfInBounds_toArray, List.set_cons_zero, List.set_cons_succ]
      refine wpAnyH_ready (rs := [1]) (by kernel_rfl) (by simp) ?_
      refine AllReadyH.cons rfl (fun K hK => ?_) AllReadyH.nil
      try simp only [Array.getInternal_eq_getElem, List.getElem_toArray, List.getElem_cons_zero, List.getElem_cons_succ]; go_simp
      refine (rg_any 150 300 _).mono ?_
      rintro e v8 ⟨rfl, hv8⟩
      have gv8 : Below W.heap.size W v8 := gv7.trans (hv8.mono gv7.size)
      refine hK.out _ _ (HS.out _ gv8) (fun _ => ?_); clear hK; try simp only [Act.put, List.setIfInBounds_toArray, List.set_cons_zero, List.set_cons_succ]
      refine wpAnyH_ready (rs := [2]) (by kernel_rfl) (by simp) ?_
      refine AllReadyH.cons rfl (fun K hK => ?_) AllReadyH.nil
      try simp only [Array.getInternal_eq_getElem, List.getElem_toArray, List.getElem_cons_zero, List.getElem_cons_succ]; go_simp
      have gv9 : Below W.heap.size W (v8.alloc (.cells #[.int .i64 100, .int .i64 170, .int .i64 150, .int .i64 300] 33)) := gv8.alloc gv8.size _
      refine hK.out _ _ (HS.out _ gv9) (fun _ => ?_); clear hK; try simp only [Act.put, List.setIfInBounds_toArray, List.set_cons_zero, List.set_cons_succ]
      have B0x := Box.below B0 gv9 q0
      obtain ⟨d0, d1, g0, g1⟩ := B0x.two
      refine wpAnyH_take (i := 6) (v := ?_) rfl (by kernel_rfl) (by kernel_rfl) (by kernel_rfl) (fun _ _ _ h => h) (Or.inl ⟨by rfl, ?_⟩) (by assumption) ?_; rotate_left; (focus (intro _w _hSw; obtain ⟨_c1, _c2⟩ := _hSw; (try simp only [Array.getInternal_eq_getElem, List.getElem_toArray, List.getElem_cons_zero, List.getElem_cons_succ]); go_simp; (try with_reducible rfl))); simp only [Array.getInternal_eq_getElem, List.getElem_toArray, List.getElem_cons_zero, List.getElem_cons_succ, Act.put, List.setIfInBounds_toArray, List.set_cons_zero, List.set_cons_succ]
      refine wpAnyH_ready (rs := [7]) (by kernel_rfl) (by simp) ?_; refine AllReadyH.cons rfl (fun K hK => ?_) AllReadyH.nil; (try simp only [Array.getInternal_eq_getElem, List.getElem_toArray, List.getElem_cons_zero, List.getElem_cons_succ])
      go_simp
      have hfin := house_end (pb := v8.heap.size) (ps := v1.heap.size) hw0 gv9 e1 e2 e3 e4 e5 (Box.below B1 gv9 B1.lt) (Box.below B2 gv9 B2.lt) (Box.below B3 gv9 B3.lt) (Box.below B4 gv9 B4.lt) (Box.below B5 gv9 B5.lt) (Box.new' (by first | rfl | (simp; done))) (Box.alloc (Box.below (Box.new' (by first | rfl | (simp; done))) hv8 (by first | (simp; done) | exact Nat.lt_succ_self _ | (rw [World.size_alloc]; exact Nat.lt_succ_self _))) _) q0 (by have := gv8.size; first | exact this | (simp at this ⊢; try omega)) (by have := gv1.size; first | exact this | (simp at this ⊢; try omega)) (u1 := .slice (some ⟨v8.heap.size, 0, none⟩) 2 2) (u2 := .slice (some ⟨v1.heap.size, 0, none⟩) 2 2)
      refine hK.out _ _ ⟨(Box.far (Box.far (Box.below B6 gv9 q6) (by show p6 ≠ w.heap.size; omega) _) (by show p6 ≠ w.heap.size; omega) _).cell 0, (Box.far (Box.far (Box.below B7 gv9 q7) (by show p7 ≠ w.heap.size; omega) _) (by show p7 ≠ w.heap.size; omega) _).cell 0⟩ (fun _ => ?_)
      clear hK
      try simp only [Act.put, List.setIfInBounds_toArray, List.set_cons_zero, List.set_cons_succ]
      refine wpAnyH_done (by kernel_rfl) ?_ _
      have B0y := Box.set_ (Box.set_ B0x 0 (.slice (some ⟨v8.heap.size, 0, none⟩) 2 2)) 1 (.slice (some ⟨v1.heap.size, 0, none⟩) 2 2)
      obtain ⟨j0, j1, _, _⟩ := Box.two (Box.cast B0y (cs' := #[.slice (some ⟨v8.heap.size, 0, none⟩) 2 2, .slice (some ⟨v1.heap.size, 0, none⟩) 2 2]) rfl)
      clear d0 d1 g0 g1
      go_wp2_with fail
      refine bodyPost_ret (v := .agg #[.slice (some ⟨v8.heap.size, 0, none⟩) 2 2, .slice (some ⟨v1.heap.size, 0, none⟩) 2 2]) (by simp [results, Try.results52, go_sem, *]) rfl ?_
      exact hfin
  · try simp only [Array.getInternal_eq_getElem, List.getElem_toArray, List.getElem_cons_zero, List.getElem_cons_succ]; go_simp
    have gv10 : Below W.heap.size W (W.alloc (.cells #[.slice (some ⟨p3, 0, none⟩) 2 2, .slice (some ⟨p5, 0, none⟩) 1 1] 88)).drew := ((Below.refl _ _).alloc (Nat.le_refl _) _).drew
    refine hK.out _ _ (HS.out _ gv10) (fun _ => ?_); clear hK; try simp only [Act.put, List.setIfInBounds_toArray, List.set_cons_zero, List.set_cons_succ]
    refine wpAnyH_ready (rs := [0]) (by kernel_rfl) (by simp) ?_
    refine AllReadyH.cons rfl (fun K hK => ?_) AllReadyH.nil
    try simp only [Array.getInternal_eq_getElem, List.getElem_toArray, List.getElem_cons_zero, List.getElem_cons_succ]; go_simp
    refine (rg_any 100 170 _).mono ?_
    rintro e v11 ⟨rfl, hv11⟩
    have gv11 : Below W.heap.size W v11 := gv10.trans (hv11.mono gv10.size)
    refine hK.out _ _ (HS.out _ gv11) (fun _ => ?_); clear hK; try simp only [Act.put, List.setIfInBounds_toArray, List.set_cons_zero, List.set_cons_succ]
    refine wpAnyH_ready (rs := [1]) (by kernel_rfl) (by simp) ?_
    refine AllReadyH.cons rfl (fun K hK => ?_) AllReadyH.nil
    try simp only [Array.getInternal_eq_getElem, List.getElem_toArray, List.getElem_cons_zero, List.getElem_cons_succ]; go_simp
    refine (rg_any 150 300 _).mono ?_
    rintro e v12 ⟨rfl, hv12⟩
    have gv12 : Below W.heap.size W v12 := gv11.trans (hv12.mono gv11.size)
    refine hK.out _ _ (HS.out _ gv12) (fun _ => ?_); clear hK; try simp only [Act.put, List.setIfInBounds_toArray, List.set_cons_zero, List.set_cons_succ]
    refine wpAnyH_ready (rs := [2]) (by kernel_rfl) (by simp) ?_
    refine AllReadyH.cons rfl (fun K hK => ?_) AllReadyH.nil
    try simp only [Array.getInternal_eq_getElem, List.getElem_toArray, List.getElem_cons_zero, List.getElem_cons_succ]; go_simp
    have gv13 : Below W.heap.size W (v12.alloc (.cells #[.int .i64 100, .int .i64 170, .int .i64 150, .int .i64 300] 33)) := gv12.alloc gv12.size _
    refine hK.out _ _ (HS.out _ gv13) (fun _ => ?_); clear hK; try simp only [Act.put, List.setIfInBounds_toArray, List.set_cons_zero, List.set_cons_succ]
    have B0x := Box.below B0 gv13 q0
    obtain ⟨d0, d1, g0, g1⟩ := B0x.two
    refine wpAnyH_take (i := 6) (v := ?_) rfl (by kernel_rfl) (by kernel_rfl) (by kernel_rfl) (fun _ _ _ h => h) (Or.inl ⟨by rfl, ?_⟩) (by assumption) ?_; rotate_left; (focus (intro _w _hSw; obtain ⟨_c1, _c2⟩ := _hSw; (try simp only [Array.getInternal_eq_getElem, List.getElem_toArray, List.getElem_cons_zero, List.getElem_cons_succ]); go_simp; (try with_reducible rfl))); simp only [Array.getInternal_eq_getElem, List.getElem_toArray, List.getElem_cons_zero, List.getElem_cons_succ, Act.put, List.setIfInBounds_toArray, List.set_cons_zero, List.set_cons_succ]
    refine wpAnyH_ready (rs := [7]) (by kernel_rfl) (by simp) ?_; refine AllReadyH.cons rfl (fun K hK => ?_) AllReadyH.nil; (try simp only [Array.getInternal_eq_getElem, List.getElem_toArray, List.getElem_cons_zero, List.getElem_cons_succ])
    go_simp
    have hfin := house_end (pb := v12.heap.size) (ps := W.heap.size) hw0 gv13 e1 e2 e3 e4 e5 (Box.below B1 gv13 B1.lt) (Box.below B2 gv13 B2.lt) (Box.below B3 gv13 B3.lt) (Box.below B4 gv13 B4.lt) (Box.below B5 gv13 B5.lt) (Box.new' (by first | rfl | (simp; done))) (Box.alloc (Box.below (Box.below (Box.drew (Box.new W _ _)) hv11 (by first | (simp; done) | exact Nat.lt_succ_self _ | (rw [World.size_alloc]; exact Nat.lt_succ_self _))) hv12 (by have := hv11.size; simp at this; omega)) _) q0 (by have := gv12.size; first | exact this | (simp at this ⊢; try omega)) (by have := gd.size; first | exact this | (simp at this ⊢; try omega)) (u1 := .slice (some ⟨v12.heap.size, 0, none⟩) 2 2) (u2 := .slice (some ⟨W.heap.size, 0, none⟩) 2 2)
    refine hK.out _ _ ⟨(Box.far (Box.far (Box.below B6 gv13 q6) (by show p6 ≠ w.heap.size; omega) _) (by show p6 ≠ w.heap.size; omega) _).cell 0, (Box.far (Box.far (Box.below B7 gv13 q7) (by show p7 ≠ w.heap.size; omega) _) (by show p7 ≠ w.heap.size; omega) _).cell 0⟩ (fun _ => ?_)
    clear hK
    try simp only [Act.put, List.setIfInBounds_toArray, List.set_cons_zero, List.set_cons_succ]
    refine wpAnyH_done (by kernel_rfl) ?_ _
    have B0y := Box.set_ (Box.set_ B0x 0 (.slice (some ⟨v12.heap.size, 0, none⟩) 2 2)) 1 (.slice (some ⟨W.heap.size, 0, none⟩) 2 2)
    obtain ⟨j0, j1, _, _⟩ := Box.two (Box.cast B0y (cs' := #[.slice (some ⟨v12.heap.size, 0, none⟩) 2 2, .slice (some ⟨W.heap.size, 0, none⟩) 2 2]) rfl)
    clear d0 d1 g0 g1
    go_wp2_with fail
    refine bodyPost_ret (v := .agg #[.slice (some ⟨v12.heap.size, 0, none⟩) 2 2, .slice (some ⟨W.heap.size, 0, none⟩) 2 2]) (by simp [results, Try.results52, go_sem, *]) rfl ?_
    exact hfin
end Go.Proofs.Ytigpefjeelgfdaa

/-
  Layer 1, plain: the answers at the works of the chapter's examples.
-/
namespace Go.Proofs.Ytigpefjeelgfdaa
open Go.RowKit

theorem houseErr : worksErr houseX = 0 := by kernel_rfl
theorem houseRec1 : recErr houseX 1 [0, 0] = 0 := by kernel_rfl
theorem houseRec0 : recErr houseX 0 [0, 0] = 0 := by kernel_rfl
theorem houseOk1 : RecOk houseX ((1 : Nat) : Int) [0, 0] := recOk_iff.1 houseRec1
theorem houseOk0 : RecOk houseX ((0 : Nat) : Int) [0, 0] := recOk_iff.1 houseRec0
theorem houseWay0 : wayOf houseX [0, 0] 0 = [⟨0, 400, 500⟩, ⟨180, 450, 600⟩] := rfl
theorem houseWay1 : wayOf houseX [0, 0] 1 = [⟨0, 200, 300⟩, ⟨420, 280, 400⟩, ⟨550, 350, 480⟩] := rfl
theorem houseRng1 : (List.range 3).map (rngN houseX 1 [0, 0]) = [(150, 300), (400, 600), (200, 480)] := by kernel_rfl
theorem houseRng0 : (List.range 3).map (rngN houseX 0 [0, 0]) = [(100, 170), (400, 500), (200, 400)] := by kernel_rfl
theorem houseRanges1 : endsL (recRows houseX 1 [0, 0]) 3 = [(150, 300), (400, 600), (200, 480)] := (endsL_iv houseOk1).trans houseRng1
theorem houseRanges0 : endsL (recRows houseX 0 [0, 0]) 3 = [(100, 170), (400, 500), (200, 400)] := (endsL_iv houseOk0).trans houseRng0
theorem houseHist1 : histErr houseX 1 [0, 0] [200, 560, 415] = 0 := by kernel_rfl
theorem houseHist2 : histErr houseX 1 [0, 0] [160, 560, 415] = 16 := by kernel_rfl
theorem houseAft : aftV [⟨0, 200, 300⟩, ⟨420, 280, 400⟩, ⟨550, 350, 480⟩] 420 = .tuple #[.agg #[.int .i64 280, .int .i64 400], .int .i64 0] := by kernel_rfl
theorem aftW0 (j : Int) (h : 0 ≤ j) : aft [⟨0, 400, 500⟩, ⟨180, 450, 600⟩] j = if 180 ≤ j then (450, 600) else (400, 500) := by
  simp only [aft, aftTo, kFst, List.length_cons, List.length_nil, List.take_succ_cons, List.take_zero, List.foldl_cons, List.foldl_nil]
  rw [if_pos h]
theorem aftW1 (j : Int) (h : 0 ≤ j) : aft [⟨0, 200, 300⟩, ⟨420, 280, 400⟩, ⟨550, 350, 480⟩] j = if 550 ≤ j then (350, 480) else if 420 ≤ j then (280, 400) else (200, 300) := by
  simp only [aft, aftTo, kFst, List.length_cons, List.length_nil, List.take_succ_cons, List.take_zero, List.foldl_cons, List.foldl_nil]
  rw [if_pos h]
theorem hadAny_iff {x : Works} {m : Nat} {ways : List Int} (ok : RecOk x m ways) {mlo mhi : Int} : hadAny x (rowOf x ways (barP x m)) (meas mlo mhi) = true ↔ ∃ j : Nat, j < 1001 ∧ ((rngN x m ways x.steps.length).1 ≤ j ∧ (j : Int) ≤ (rngN x m ways x.steps.length).2) ∧ mlo ≤ j ∧ (j : Int) ≤ mhi := by
  unfold hadAny
  rw [anyRow_iff]
  simp only [keepR, if_true, Bool.and_eq_true, rowOf_sub ok (Nat.le_refl _), meas, inB, decide_eq_true_eq]
theorem houseR1 (i : Nat) (h : i ≤ 2) : recRows houseX 1 [0, 0] i = ivP (rngN houseX 1 [0, 0] i).1.toNat (rngN houseX 1 [0, 0] i).2.toNat := rowOf_iv houseOk1 i h
theorem houseAny1 : hadAny houseX (recRows houseX 1 [0, 0]) (meas 410 420) = true := by
  refine (hadAny_iff houseOk1).2 ⟨415, by omega, ?_, by omega, by omega⟩
  have : rngN houseX ((1 : Nat)) [0, 0] houseX.steps.length = (200, 480) := by kernel_rfl
  rw [this]
  exact ⟨by decide, by decide⟩
theorem houseAny0 : hadAny houseX (recRows houseX 0 [0, 0]) (meas 410 420) = false := by
  rw [← Bool.not_eq_true]
  intro h
  obtain ⟨j, _, ⟨h1, h2⟩, h3, h4⟩ := (hadAny_iff houseOk0).1 h
  have : rngN houseX ((0 : Nat)) [0, 0] houseX.steps.length = (200, 400) := by kernel_rfl
  rw [this] at h1 h2
  simp only at h1 h2
  omega
theorem houseAgr1 : agrErr houseX 1 [0, 0] 410 420 = 0 := by
  have h1 : isHardB 410 420 = true := by decide
  unfold agrErr
  rw [if_neg (by rw [houseRec1]; simp), if_neg (by rw [h1]; simp), if_neg (by rw [houseAny1]; simp)]
theorem houseAgr0 : agrErr houseX 0 [0, 0] 410 420 = 17 := by
  have h1 : isHardB 410 420 = true := by decide
  unfold agrErr
  rw [if_neg (by rw [houseRec0]; simp), if_neg (by rw [h1]; simp), if_pos houseAny0]
theorem houseH2 : agrRows houseX 1 [0, 0] 410 420 2 = ivP 410 420 := by
  funext j
  have h := had_last houseX [0, 0] (recRows houseX 1 [0, 0]) (meas 410 420) j
  have h2 : agrRows houseX 1 [0, 0] 410 420 2 j = hadRows houseX [0, 0] (recRows houseX 1 [0, 0]) (meas 410 420) houseX.steps.length j := rfl
  have hr := houseR1 2 (by omega)
  have hg : rngN houseX 1 [0, 0] 2 = (200, 480) := by kernel_rfl
  rw [hg] at hr
  rw [h2, h]
  show (recRows houseX 1 [0, 0] 2 j && meas 410 420 j) = _
  rw [hr, Bool.eq_iff_iff]
  simp only [ivP, meas, inB, Bool.and_eq_true, decide_eq_true_eq]
  omega
theorem houseH1 : agrRows houseX 1 [0, 0] 410 420 1 = ivP 550 600 := by
  funext j
  have h := had_step houseX [0, 0] (recRows houseX 1 [0, 0]) (meas 410 420) (s := 1) (by decide) j
  have h2 : hadRows houseX [0, 0] (recRows houseX 1 [0, 0]) (meas 410 420) 2 = ivP 410 420 := houseH2
  have hr := houseR1 1 (by omega)
  have hg : rngN houseX 1 [0, 0] 1 = (400, 600) := by kernel_rfl
  rw [hg] at hr
  have h3 : agrRows houseX 1 [0, 0] 410 420 1 j = hadRows houseX [0, 0] (recRows houseX 1 [0, 0]) (meas 410 420) 1 j := rfl
  rw [h3, h, h2, hr, houseWay1, Bool.eq_iff_iff, Bool.and_eq_true]
  by_cases hj : j ≤ 1000
  · rw [lead_iv (by kernel_rfl) (by simp) (by omega) hj, aftW1 j (by omega)]
    simp only [ivP, decide_eq_true_eq]
    split
    · simp only; omega
    · split
      · simp only; omega
      · simp only; omega
  · simp only [ivP, decide_eq_true_eq]
    omega
theorem houseH0 : agrRows houseX 1 [0, 0] 410 420 0 = ivP 180 300 := by
  funext j
  have h := had_step houseX [0, 0] (recRows houseX 1 [0, 0]) (meas 410 420) (s := 0) (by decide) j
  have h2 : hadRows houseX [0, 0] (recRows houseX 1 [0, 0]) (meas 410 420) (0 + 1) = ivP 550 600 := houseH1
  have hr := houseR1 0 (by omega)
  have hg : rngN houseX 1 [0, 0] 0 = (150, 300) := by kernel_rfl
  rw [hg] at hr
  have h3 : agrRows houseX 1 [0, 0] 410 420 0 j = hadRows houseX [0, 0] (recRows houseX 1 [0, 0]) (meas 410 420) 0 j := rfl
  rw [h3, h, h2, hr, houseWay0, Bool.eq_iff_iff, Bool.and_eq_true]
  by_cases hj : j ≤ 1000
  · rw [lead_iv (by kernel_rfl) (by simp) (by omega) hj, aftW0 j (by omega)]
    simp only [ivP, decide_eq_true_eq]
    split
    · simp only; omega
    · simp only; omega
  · simp only [ivP, decide_eq_true_eq]
    omega
theorem houseHad : endsL (agrRows houseX 1 [0, 0] 410 420) 3 = [(180, 300), (550, 600), (410, 420)] := by
  show [_, _, _] = _
  dsimp only
  rw [houseH0, houseH1, houseH2, endsOf_iv (by omega) (by omega), endsOf_iv (by omega) (by omega), endsOf_iv (by omega) (by omega)]
  rfl
theorem houseHistory : histVals houseX 1 [0, 0] 410 420 = [180, 550, 410] := by
  have w0 : histN houseX 1 [0, 0] (agrRows houseX 1 [0, 0] 410 420) 0 = 180 := by
    unfold histN
    rw [houseH0]
    kernel_rfl
  have w1 : histN houseX 1 [0, 0] (agrRows houseX 1 [0, 0] 410 420) 1 = 550 := by
    unfold histN
    rw [houseH1]
    simp only [winN, houseH0]
    kernel_rfl
  have w2 : histN houseX 1 [0, 0] (agrRows houseX 1 [0, 0] 410 420) 2 = 410 := by
    unfold histN
    rw [houseH2]
    simp only [winN, houseH0, houseH1]
    kernel_rfl
  show [histN houseX 1 [0, 0] (agrRows houseX 1 [0, 0] 410 420) 0, histN houseX 1 [0, 0] (agrRows houseX 1 [0, 0] 410 420) 1, histN houseX 1 [0, 0] (agrRows houseX 1 [0, 0] 410 420) 2] = _
  rw [w0, w1, w2]
theorem houseHist3 : histErr houseX 1 [0, 0] [180, 550, 410] = 0 := by kernel_rfl
theorem houseSome : someErr houseX 410 420 = 0 := by kernel_rfl
theorem houseMak : makErr houseX 410 420 = 0 := by kernel_rfl
theorem houseTot : totN houseX 410 420 = 3 := by kernel_rfl
theorem houseBars : leftN houseX 410 420 (-1) = [0, 1] := by kernel_rfl
theorem houseLeft0 : leftN houseX 410 420 0 = [0, 1] := by kernel_rfl
theorem houseLeft1 : leftN houseX 410 420 1 = [0] := by kernel_rfl
theorem houseAsk : askV houseX 410 420 = .tuple #[.int .i64 (-1), .int .i64 2, .int .i64 0] := by kernel_rfl
theorem houseNone : makErr houseX 481 500 = 0 ∧ totN houseX 481 500 = 0 ∧ someErr houseX 481 500 = 17 := ⟨by kernel_rfl, by kernel_rfl, by kernel_rfl⟩
end Go.Proofs.Ytigpefjeelgfdaa

/-
  Layer 1, plain: from which to which hardness histories have been; the history that is returned agrees.
-/
namespace Go.Proofs.Ytigpefjeelgfdaa
open Go.RowKit

theorem aft_bounds {x : Works} {m : Nat} {ways : List Int} (ok : RecOk x m ways) {s : Nat} (hs : s < x.steps.length) (n : Int) (hn : 0 ≤ n) : 0 ≤ (aft (wayOf x ways s) n).1 ∧ (aft (wayOf x ways s) n).1 ≤ (aft (wayOf x ways s) n).2 ∧ (aft (wayOf x ways s) n).2 ≤ 1000 := by
  have hw := way_ok (wayOf_err ok hs)
  have hz := frm_zero hw.2.2.1 hw.1
  obtain ⟨a, a1, a2, a3, a4⟩ := aftTo_idx (n := n) hw.1 (by omega) (wayOf x ways s).length hw.1 (Nat.le_refl _)
  have v := kk_val hw.2.2.1 a1
  show 0 ≤ (aftTo (wayOf x ways s) n (wayOf x ways s).length).1 ∧ _
  unfold aft
  rw [a4]
  exact ⟨v.1, v.2.1, v.2.2.1⟩

/-- Whether a recipe can have made what was measured. -/
def madeB (x : Works) (m : Nat) (ways : List Int) (mlo mhi : Int) : Bool := decide ((rngN x m ways x.steps.length).1 ≤ mhi) && decide (mlo ≤ (rngN x m ways x.steps.length).2)
theorem made_iff {x : Works} {m : Nat} {ways : List Int} (ok : RecOk x m ways) {mlo mhi : Int} (hm : isHardB mlo mhi = true) : hadAny x (rowOf x ways (barP x m)) (meas mlo mhi) = madeB x m ways mlo mhi := by
  have hv := rngN_val ok x.steps.length (Nat.le_refl _)
  rw [isHardB_iff] at hm
  rw [Bool.eq_iff_iff, hadAny_iff ok]
  simp only [madeB, Bool.and_eq_true, decide_eq_true_eq]
  constructor
  · rintro ⟨j, _, ⟨h1, h2⟩, h3, h4⟩
    omega
  · rintro ⟨h1, h2⟩
    refine ⟨(max (rngN x m ways x.steps.length).1 mlo).toNat, ?_, ⟨?_, ?_⟩, ?_, ?_⟩ <;> omega

/-- From which to which hardness. -/
def hadE (x : Works) (m : Nat) (ways : List Int) (mlo mhi : Int) (s : Nat) : Rg := (((endsOf (agrRows x m ways mlo mhi s)).1 : Int), ((endsOf (agrRows x m ways mlo mhi s)).2 : Int))
section
variable {x : Works} {m : Nat} {ways : List Int} {mlo mhi : Int}
theorem agrRows_iv (ok : RecOk x m ways) (hany : hadAny x (rowOf x ways (barP x m)) (meas mlo mhi) = true) {s : Nat} (hs : s ≤ x.steps.length) : IsIv (agrRows x m ways mlo mhi s) := (had_iv ok hany (x.steps.length - s) s (by omega)).1
theorem agrRows_in (ok : RecOk x m ways) (hany : hadAny x (rowOf x ways (barP x m)) (meas mlo mhi) = true) {s : Nat} (hs : s ≤ x.steps.length) (j : Nat) :
    agrRows x m ways mlo mhi s j = true ↔ (hadE x m ways mlo mhi s).1 ≤ j ∧ (j : Int) ≤ (hadE x m ways mlo mhi s).2 := by
  obtain ⟨_, _, h⟩ := agrRows_iv ok hany hs
  rw [h]
  simp only [ivP, decide_eq_true_eq, hadE]
  omega
theorem hadE_val (ok : RecOk x m ways) (hany : hadAny x (rowOf x ways (barP x m)) (meas mlo mhi) = true) {s : Nat} (hs : s ≤ x.steps.length) :
    (rngN x m ways s).1 ≤ (hadE x m ways mlo mhi s).1 ∧ (hadE x m ways mlo mhi s).1 ≤ (hadE x m ways mlo mhi s).2 ∧ (hadE x m ways mlo mhi s).2 ≤ (rngN x m ways s).2 ∧ 0 ≤ (hadE x m ways mlo mhi s).1 ∧ (hadE x m ways mlo mhi s).2 ≤ 1000 := by
  obtain ⟨h1, h2, h3⟩ := agrRows_iv ok hany hs
  have hsub := (had_iv ok hany (x.steps.length - s) s (by omega)).2
  have e1 := hsub (endsOf (agrRows x m ways mlo mhi s)).1 (by show agrRows x m ways mlo mhi s _ = true; rw [h3]; simp only [ivP, decide_eq_true_eq]; rw [← h3]; omega)
  have e2 := hsub (endsOf (agrRows x m ways mlo mhi s)).2 (by show agrRows x m ways mlo mhi s _ = true; rw [h3]; simp only [ivP, decide_eq_true_eq]; rw [← h3]; omega)
  rw [rowOf_sub ok hs] at e1 e2
  simp only [hadE]
  omega
theorem hadE_last (ok : RecOk x m ways) (hany : hadAny x (rowOf x ways (barP x m)) (meas mlo mhi) = true) : hadE x m ways mlo mhi x.steps.length = (max (rngN x m ways x.steps.length).1 mlo, min (rngN x m ways x.steps.length).2 mhi) := by
  have hv := rngN_val ok x.steps.length (Nat.le_refl _)
  have hb := hadE_val ok hany (Nat.le_refl x.steps.length)
  have key : ∀ j : Nat, ((hadE x m ways mlo mhi x.steps.length).1 ≤ j ∧ (j : Int) ≤ (hadE x m ways mlo mhi x.steps.length).2) ↔ ((rngN x m ways x.steps.length).1 ≤ j ∧ (j : Int) ≤ (rngN x m ways x.steps.length).2) ∧ mlo ≤ j ∧ (j : Int) ≤ mhi := fun j => by
    rw [← agrRows_in ok hany (Nat.le_refl _)]
    show hadRows x ways (rowOf x ways (barP x m)) (meas mlo mhi) x.steps.length j = true ↔ _
    rw [had_last, Bool.and_eq_true, rowOf_sub ok (Nat.le_refl _)]
    simp only [meas, inB, decide_eq_true_eq]
  generalize hadE x m ways mlo mhi x.steps.length = E at *
  generalize rngN x m ways x.steps.length = G at *
  obtain ⟨a, b⟩ := E
  obtain ⟨c, d⟩ := G
  simp only at key hv hb ⊢
  have k1 := (key a.toNat).1 (by omega)
  have k2 := (key b.toNat).1 (by omega)
  have k3 := (key (max c mlo).toNat).2 (by omega)
  have k4 := (key (min d mhi).toNat).2 (by omega)
  rw [Prod.mk.injEq]
  omega
/-- A step back. -/
theorem hadE_step (ok : RecOk x m ways) (hany : hadAny x (rowOf x ways (barP x m)) (meas mlo mhi) = true) {s : Nat} (hs : s < x.steps.length) (j : Nat) :
    ((hadE x m ways mlo mhi s).1 ≤ j ∧ (j : Int) ≤ (hadE x m ways mlo mhi s).2) ↔ ((rngN x m ways s).1 ≤ j ∧ (j : Int) ≤ (rngN x m ways s).2) ∧ (aft (wayOf x ways s) j).1 ≤ (hadE x m ways mlo mhi (s + 1)).2 ∧ (hadE x m ways mlo mhi (s + 1)).1 ≤ (aft (wayOf x ways s) j).2 := by
  rw [← agrRows_in ok hany (Nat.le_of_lt hs)]
  show hadRows x ways (rowOf x ways (barP x m)) (meas mlo mhi) s j = true ↔ _
  rw [had_step x ways _ _ hs, Bool.and_eq_true, rowOf_sub ok (Nat.le_of_lt hs)]
  have hv := rngN_val ok s (Nat.le_of_lt hs)
  have hw := way_ok (wayOf_err ok hs)
  obtain ⟨h1, h2, h3⟩ := agrRows_iv ok hany (s := s + 1) hs
  have e : hadRows x ways (rowOf x ways (barP x m)) (meas mlo mhi) (s + 1) = ivP (endsOf (agrRows x m ways mlo mhi (s + 1))).1 (endsOf (agrRows x m ways mlo mhi (s + 1))).2 := h3
  rw [e]
  constructor
  · rintro ⟨g1, g2⟩
    have ab := aft_bounds ok hs (j : Int) (by omega)
    rw [lead_iv hw.2.2.1 hw.1 h1 (by omega)] at g2
    simp only [hadE]
    omega
  · rintro ⟨g1, g2⟩
    have ab := aft_bounds ok hs (j : Int) (by omega)
    simp only [hadE] at g2
    refine ⟨g1, ?_⟩
    rw [lead_iv hw.2.2.1 hw.1 h1 (by omega)]
    omega

/-! ### the history that is returned -/
theorem firstOf_in {p : Nat → Bool} {lo hi : Nat} (h : ∃ j, lo ≤ j ∧ j ≤ hi ∧ p j = true) : ∃ j : Nat, firstOf p lo hi = j ∧ lo ≤ j ∧ j ≤ hi ∧ p j = true := by
  rcases firstOf_is p lo hi with ⟨_, h2⟩ | ⟨j, h1, h2, h3, h4, _⟩
  · obtain ⟨j, g1, g2, g3⟩ := h
    rw [h2 j g1 g2] at g3
    cases g3
  · exact ⟨j, h1, h2, h3, h4⟩
theorem hist_in (ok : RecOk x m ways) (hany : hadAny x (rowOf x ways (barP x m)) (meas mlo mhi) = true) : ∀ k, k ≤ x.steps.length →
    ∃ j : Nat, histN x m ways (agrRows x m ways mlo mhi) k = j ∧ (winN x m ways (agrRows x m ways mlo mhi) k).1 ≤ j ∧ (j : Int) ≤ (winN x m ways (agrRows x m ways mlo mhi) k).2 ∧ agrRows x m ways mlo mhi k j = true
  | 0, _ => by
    have hv := winN_val ok (agrRows x m ways mlo mhi) 0 (Nat.zero_le _)
    have hb := hadE_val ok hany (Nat.zero_le x.steps.length)
    have hr : winN x m ways (agrRows x m ways mlo mhi) 0 = rngN x m ways 0 := rfl
    obtain ⟨j, h1, h2, h3, h4⟩ := firstOf_in (p := agrRows x m ways mlo mhi 0) (lo := (winN x m ways (agrRows x m ways mlo mhi) 0).1.toNat) (hi := (winN x m ways (agrRows x m ways mlo mhi) 0).2.toNat)
      ⟨(hadE x m ways mlo mhi 0).1.toNat, by rw [hr]; omega, by rw [hr]; omega, (agrRows_in ok hany (Nat.zero_le _) _).2 ⟨by omega, by omega⟩⟩
    exact ⟨j, h1, by omega, by omega, h4⟩
  | k + 1, hk => by
    obtain ⟨i, i1, i2, i3, i4⟩ := hist_in ok hany k (by omega)
    have hv := winN_val ok (agrRows x m ways mlo mhi) (k + 1) hk
    have hb := hadE_val ok hany hk
    have hs := (hadE_step ok hany (show k < x.steps.length by omega) i).1 ((agrRows_in ok hany (by omega) i).1 i4)
    have hw : winN x m ways (agrRows x m ways mlo mhi) (k + 1) = aft (wayOf x ways k) i := by
      show aft (wayOf x ways k) (histN x m ways (agrRows x m ways mlo mhi) k) = _
      rw [i1]
    rw [hw] at hv
    obtain ⟨j, h1, h2, h3, h4⟩ := firstOf_in (p := agrRows x m ways mlo mhi (k + 1)) (lo := (winN x m ways (agrRows x m ways mlo mhi) (k + 1)).1.toNat) (hi := (winN x m ways (agrRows x m ways mlo mhi) (k + 1)).2.toNat)
      ⟨(max (aft (wayOf x ways k) i).1 (hadE x m ways mlo mhi (k + 1)).1).toNat, by rw [hw]; omega, by rw [hw]; omega, (agrRows_in ok hany hk _).2 ⟨by omega, by omega⟩⟩
    rw [hw] at h2 h3 ⊢
    exact ⟨j, h1, by omega, by omega, h4⟩
theorem histVals_at {bar : Int} {lo hi : Int} {k : Nat} (hk : k ≤ x.steps.length) : intAt (histVals x bar ways lo hi) k = histN x bar.toNat ways (agrRows x bar ways lo hi) k := by
  unfold histVals
  refine intAt_of (Lib.hid ?_)
  rw [List.getElem?_map, List.getElem?_range (by omega)]
  rfl
/-- **The history that is returned is one, and agrees.** -/
theorem histVals_ok (ok : RecOk x m ways) (hany : hadAny x (rowOf x ways (barP x m)) (meas mlo mhi) = true) : histErr x m ways (histVals x m ways mlo mhi) = 0 ∧ inB (intAt (histVals x m ways mlo mhi) x.steps.length) mlo mhi = true := by
  have at_ : ∀ k, k ≤ x.steps.length → intAt (histVals x m ways mlo mhi) k = histN x m ways (agrRows x m ways mlo mhi) k := fun k hk => histVals_at (bar := (m : Int)) hk
  have hlen : (histVals x m ways mlo mhi).length = x.steps.length + 1 := by simp [histVals]
  refine ⟨histErr_ok (recOk_iff.2 ok) hlen (allN_iff.2 fun k hk => ?_), ?_⟩
  · rw [hlen] at hk
    obtain ⟨j, h1, h2, h3, _⟩ := hist_in ok hany k (by omega)
    have hw : within x m ways (histVals x m ways mlo mhi) k = winN x m ways (agrRows x m ways mlo mhi) k := by
      rcases k with _ | k
      · rfl
      · show aft (wayOf x ways k) (intAt (histVals x m ways mlo mhi) k) = _
        rw [at_ k (by omega)]
        rfl
    unfold histOk
    rw [hw, at_ k (by omega), h1]
    simp only [inB, decide_eq_true_eq]
    exact ⟨h2, h3⟩
  · obtain ⟨j, h1, _, _, h4⟩ := hist_in ok hany x.steps.length (Nat.le_refl _)
    have h5 : hadRows x ways (rowOf x ways (barP x m)) (meas mlo mhi) x.steps.length j = true := h4
    rw [had_last, Bool.and_eq_true] at h5
    rw [at_ _ (Nat.le_refl _), h1]
    exact h5.2
end
end Go.Proofs.Ytigpefjeelgfdaa

/-
  Walks of layer 1's reference: what was measured, and whether a recipe can have made it.
-/
namespace Go.Proofs.Ytigpefjeelgfdaa
open Go.RowKit

theorem In.drop {w : World} {B : Nat} {Ab As Ar : Option Addr} {cb cs cr : Nat} {x : Works} {ways : List Int} (h : In w B Ab As Ar cb cs cr x ways) : In w B Ab As none cb cs 0 x [] :=
  ⟨h.bars, h.steps, fun h => absurd h (by simp), h.cb1, h.cb2, h.cs1, h.cs2, by simp, by omega, h.le⟩
/-- The errors of a works and of what was measured. -/
def meaErr (x : Works) (lo hi : Int) : Int := if worksErr x ≠ 0 then worksErr x else if isHardB lo hi = false then 2 else 0

set_option maxHeartbeats 1000000 in
theorem refIsMeasured_any (Ab As : Option Addr) (cb cs : Nat) (x : Works) (lo hi : Int) (B : Nat) (w : World) (h : In w B Ab As none cb cs 0 x []) :
    Calls Try.prog 74 #[.agg #[.slice Ab x.bars.length cb, .slice As x.steps.length cs], .agg #[.int .i64 lo, .int .i64 hi]] w fun e w' => e = .returned (.int .i64 (meaErr x lo hi)) ∧ Below w.heap.size w w' := by
  have hB := h.le
  have hre : ∀ W : World, Below w.heap.size w W → Calls Try.prog 22 #[.agg #[.slice Ab x.bars.length cb, .slice As x.steps.length cs]] W fun e w' => e = .returned (.int .i64 (worksErr x)) ∧ Below W.heap.size W w' :=
    fun W hW => refCheckWorks_any Ab As cb cs x B W (rgs_on h.bars hW hB) (steps_on h.steps hW hB) h.cs1 h.cs2 h.cb1 h.cb2 (Nat.le_trans hB hW.size)
  have HRE := Lib.hid hre
  clear hre
  by_cases g : worksErr x = 0
  · cases g2 : isHardB lo hi
    · have R : Hid (meaErr x lo hi = 2) := Lib.hid (by simp [meaErr, g, g2])
      have G := Lib.hid g
      have G2 := Lib.hid g2
      clear g g2
      go_enter Try.func74, Try.ntmps74
      go_wp2_with (first
        | (go_at_call 22; refine (HRE.out _ bel).mono ?_; rintro e w1 ⟨rfl, hb1⟩; rw [G.out]; obtain ⟨_hr1, _hr2⟩ := below_reads hb1; have _hz := Below.size hb1; (try simp only [World.size_alloc, World.size_setCell, World.size_drew, World.heap_drewN] at _hz); obtain ⟨_hr3, _hr4⟩ := below_reads (show Below w.heap.size w w1 from bel); have _q0 : w.heap.size < w1.heap.size := (by omega); have _q1 : w.heap.size + 1 < w1.heap.size := (by omega))
        | (go_at_call 47; refine (refIsHard_any _ _ _).mono ?_; rintro e w2 ⟨rfl, hb2⟩; rw [G2.out]; obtain ⟨_hr1, _hr2⟩ := below_reads hb2; have _hz := Below.size hb2; (try simp only [World.size_alloc, World.size_setCell, World.size_drew, World.heap_drewN] at _hz); obtain ⟨_hr3, _hr4⟩ := below_reads (show Below w.heap.size w w2 from bel); have _q0 : w.heap.size < w2.heap.size := (by omega); have _q1 : w.heap.size + 1 < w2.heap.size := (by omega)))
      go_ret
      exact ⟨ret_int R.out.symm, bel⟩
    · have R : Hid (meaErr x lo hi = 0) := Lib.hid (by simp [meaErr, g, g2])
      have G := Lib.hid g
      have G2 := Lib.hid g2
      clear g g2
      go_enter Try.func74, Try.ntmps74
      go_wp2_with (first
        | (go_at_call 22; refine (HRE.out _ bel).mono ?_; rintro e w1 ⟨rfl, hb1⟩; rw [G.out]; obtain ⟨_hr1, _hr2⟩ := below_reads hb1; have _hz := Below.size hb1; (try simp only [World.size_alloc, World.size_setCell, World.size_drew, World.heap_drewN] at _hz); obtain ⟨_hr3, _hr4⟩ := below_reads (show Below w.heap.size w w1 from bel); have _q0 : w.heap.size < w1.heap.size := (by omega); have _q1 : w.heap.size + 1 < w1.heap.size := (by omega))
        | (go_at_call 47; refine (refIsHard_any _ _ _).mono ?_; rintro e w2 ⟨rfl, hb2⟩; rw [G2.out]; obtain ⟨_hr1, _hr2⟩ := below_reads hb2; have _hz := Below.size hb2; (try simp only [World.size_alloc, World.size_setCell, World.size_drew, World.heap_drewN] at _hz); obtain ⟨_hr3, _hr4⟩ := below_reads (show Below w.heap.size w w2 from bel); have _q0 : w.heap.size < w2.heap.size := (by omega); have _q1 : w.heap.size + 1 < w2.heap.size := (by omega)))
      go_ret
      exact ⟨ret_int R.out.symm, bel⟩
  · have R : Hid (meaErr x lo hi = worksErr x) := Lib.hid (by simp [meaErr, g])
    have g' : (worksErr x != 0) = true := by simp [g]
    clear g
    go_enter Try.func74, Try.ntmps74
    go_wp2_with fail
    refine (HRE.out _ bel).mono ?_
    rintro e w1 ⟨rfl, hb1⟩
    obtain ⟨_hr1, _hr2⟩ := below_reads hb1; have _hz := Below.size hb1; (try simp only [World.size_alloc, World.size_setCell, World.size_drew, World.heap_drewN] at _hz); obtain ⟨_hr3, _hr4⟩ := below_reads (show Below w.heap.size w w1 from bel); have _q0 : w.heap.size < w1.heap.size := (by omega); have _q1 : w.heap.size + 1 < w1.heap.size := (by omega)
    go_wp2_with fail
    refine (HRE.out _ bel).mono ?_
    rintro e w2 ⟨rfl, hb2⟩
    have _q0 : w.heap.size < w2.heap.size := by have := hb2.size; omega
    have _q1 : w.heap.size + 1 < w2.heap.size := by have := hb2.size; omega
    go_wp2_with fail
    go_ret
    exact ⟨ret_int R.out.symm, bel⟩

set_option maxHeartbeats 1000000 in
theorem refMade_ok (Ab As Ar : Option Addr) (cb cs cr : Nat) (x : Works) (m : Nat) (ways : List Int) (lo hi : Int) (B : Nat) (w : World) (h : In w B Ab As Ar cb cs cr x ways) (ok : RecOk x (m : Int) ways) :
    Calls Try.prog 97 #[.agg #[.slice Ab x.bars.length cb, .slice As x.steps.length cs], .agg #[.int .i64 m, .slice Ar ways.length cr], .agg #[.int .i64 lo, .int .i64 hi]] w fun e w' => e = .returned (.bool (madeB x m ways lo hi)) ∧ Below w.heap.size w w' := by
  have hB := h.le
  have hrr : ∀ W : World, Below w.heap.size w W → CallsF 64 #[.agg #[.slice Ab x.bars.length cb, .slice As x.steps.length cs], .agg #[.int .i64 m, .slice Ar ways.length cr]] W (Fact.rgs ((List.range (x.steps.length + 1)).map (rngN x m ways))) :=
    fun W hW => refranges_ok Ab As Ar cb cs cr x m ways B W (h.on hW hB) ok
  have HRR := Lib.hid hrr
  have hs6 := steps_few ok.works
  obtain ⟨a, b, hab⟩ : ∃ a b, rngN x m ways x.steps.length = (a, b) := ⟨_, _, rfl⟩
  have E : Hid (madeB x m ways lo hi = (decide (a ≤ hi) && decide (lo ≤ b))) := Lib.hid (by simp only [madeB, hab])
  have HAB := Lib.hid hab
  clear hrr hab
  have key : ∀ (W : World) (v : Value), Rgs W W.heap.size v ((List.range (x.steps.length + 1)).map (rngN x m ways)) → ∃ (g o c : Nat), v = .slice (some ⟨g, o, none⟩) (x.steps.length + 1) c ∧ g < W.heap.size ∧ x.steps.length + 1 ≤ c ∧ W.cell? ⟨g, o + x.steps.length * 2, none⟩ = some (.int .i64 a) ∧ W.cell? ⟨g, o + x.steps.length * 2 + 1, none⟩ = some (.int .i64 b) := by
    intro W v hv
    obtain ⟨A, c, rfl, h1, h2, h3⟩ := hv
    obtain ⟨g, o, hA, hlt, hx⟩ := h3 (by simp)
    subst hA
    have := hx x.steps.length (rngN x m ways x.steps.length) (by rw [List.getElem?_map, List.getElem?_range (by omega)]; rfl)
    rw [HAB.out] at this
    exact ⟨g, o, c, by simp, hlt, by simpa using h1, this.1, this.2⟩
  have KEY := Lib.hid key
  clear key
  have s0 : (0 : Int) ≤ (x.steps.length : Int) := by omega
  by_cases c1 : a ≤ hi
  · by_cases c2 : lo ≤ b
    · have R : Hid (madeB x m ways lo hi = true) := Lib.hid (by rw [E.out, decide_eq_true c1, decide_eq_true c2]; rfl)
      go_enter Try.func97, Try.ntmps97
      go_wp2_with (go_at_call 64; refine Calls.mono (HRR.out _ bel) ?_; rintro e w2 ⟨v2, rfl, hv2, hb2⟩; obtain ⟨g, o, c, rfl, k1, k2, k3, k4⟩ := KEY.out _ _ hv2; clear hv2; obtain ⟨_hr1, _hr2⟩ := below_reads hb2; have _hz := Below.size hb2; (try simp only [World.size_alloc, World.size_setCell, World.size_drew, World.heap_drewN] at _hz); obtain ⟨_hr3, _hr4⟩ := below_reads (show Below w.heap.size w w2 from bel); have _q0 : w.heap.size < w2.heap.size := (by omega); have _q1 : w.heap.size + 1 < w2.heap.size := (by omega); have _q2 : w.heap.size + 1 + 1 < w2.heap.size := (by omega))
      go_ret
      exact ⟨ret_bool R.out.symm, bel⟩
    · have R : Hid (madeB x m ways lo hi = false) := Lib.hid (by rw [E.out, decide_eq_true c1, decide_eq_false c2]; rfl)
      go_enter Try.func97, Try.ntmps97
      go_wp2_with (go_at_call 64; refine Calls.mono (HRR.out _ bel) ?_; rintro e w2 ⟨v2, rfl, hv2, hb2⟩; obtain ⟨g, o, c, rfl, k1, k2, k3, k4⟩ := KEY.out _ _ hv2; clear hv2; obtain ⟨_hr1, _hr2⟩ := below_reads hb2; have _hz := Below.size hb2; (try simp only [World.size_alloc, World.size_setCell, World.size_drew, World.heap_drewN] at _hz); obtain ⟨_hr3, _hr4⟩ := below_reads (show Below w.heap.size w w2 from bel); have _q0 : w.heap.size < w2.heap.size := (by omega); have _q1 : w.heap.size + 1 < w2.heap.size := (by omega); have _q2 : w.heap.size + 1 + 1 < w2.heap.size := (by omega))
      go_ret
      exact ⟨ret_bool (by rw [E.out, decide_eq_true c1]; rfl), bel⟩
  · have R : Hid (madeB x m ways lo hi = false) := Lib.hid (by rw [E.out, decide_eq_false c1]; rfl)
    go_enter Try.func97, Try.ntmps97
    go_wp2_with (go_at_call 64; refine Calls.mono (HRR.out _ bel) ?_; rintro e w2 ⟨v2, rfl, hv2, hb2⟩; obtain ⟨g, o, c, rfl, k1, k2, k3, k4⟩ := KEY.out _ _ hv2; clear hv2; obtain ⟨_hr1, _hr2⟩ := below_reads hb2; have _hz := Below.size hb2; (try simp only [World.size_alloc, World.size_setCell, World.size_drew, World.heap_drewN] at _hz); obtain ⟨_hr3, _hr4⟩ := below_reads (show Below w.heap.size w w2 from bel); have _q0 : w.heap.size < w2.heap.size := (by omega); have _q1 : w.heap.size + 1 < w2.heap.size := (by omega); have _q2 : w.heap.size + 1 + 1 < w2.heap.size := (by omega))
    go_ret
    exact ⟨ret_bool R.out.symm, bel⟩

set_option maxHeartbeats 1000000 in
theorem refHadError_any (Ab As Ar : Option Addr) (cb cs cr : Nat) (x : Works) (bar : Int) (ways : List Int) (lo hi : Int) (B : Nat) (w : World) (h : In w B Ab As Ar cb cs cr x ways) :
    Calls Try.prog 67 #[.agg #[.slice Ab x.bars.length cb, .slice As x.steps.length cs], .agg #[.int .i64 bar, .slice Ar ways.length cr], .agg #[.int .i64 lo, .int .i64 hi]] w fun e w' => e = .returned (.int .i64 (agrErr x bar ways lo hi)) ∧ Below w.heap.size w w' := by
  have hB := h.le
  have hre : ∀ W : World, Below w.heap.size w W → Calls Try.prog 63 #[.agg #[.slice Ab x.bars.length cb, .slice As x.steps.length cs], .agg #[.int .i64 bar, .slice Ar ways.length cr]] W fun e w' => e = .returned (.int .i64 (recErr x bar ways)) ∧ Below W.heap.size W w' :=
    fun W hW => refIsRecipe_any Ab As Ar cb cs cr x bar ways B W (h.on hW hB)
  have HRE := Lib.hid hre
  have hme : ∀ W : World, Below w.heap.size w W → Calls Try.prog 74 #[.agg #[.slice Ab x.bars.length cb, .slice As x.steps.length cs], .agg #[.int .i64 lo, .int .i64 hi]] W fun e w' => e = .returned (.int .i64 (meaErr x lo hi)) ∧ Below W.heap.size W w' :=
    fun W hW => refIsMeasured_any Ab As cb cs x lo hi B W (h.on hW hB).drop
  have HME := Lib.hid hme
  clear hre hme
  by_cases g : recErr x bar ways = 0
  · have ok := recOk_iff.1 g
    obtain ⟨m, hbar⟩ := Int.eq_ofNat_of_zero_le ok.bar0
    subst hbar
    have hma : ∀ W : World, Below w.heap.size w W → Calls Try.prog 97 #[.agg #[.slice Ab x.bars.length cb, .slice As x.steps.length cs], .agg #[.int .i64 m, .slice Ar ways.length cr], .agg #[.int .i64 lo, .int .i64 hi]] W fun e w' => e = .returned (.bool (madeB x m ways lo hi)) ∧ Below W.heap.size W w' :=
      fun W hW => refMade_ok Ab As Ar cb cs cr x m ways lo hi B W (h.on hW hB) ok
    have HMA := Lib.hid hma
    clear hma
    have G := Lib.hid g
    cases g2 : isHardB lo hi
    · have M : Hid (meaErr x lo hi = 2) := Lib.hid (by simp [meaErr, ok.works, g2])
      have R : Hid (agrErr x m ways lo hi = 2) := Lib.hid (by simp [agrErr, g, g2])
      clear g g2 ok
      go_enter Try.func67, Try.ntmps67
      go_wp2_with (first
        | (go_at_call 63; refine (HRE.out _ bel).mono ?_; rintro e w1 ⟨rfl, hb1⟩; rw [G.out]; obtain ⟨_hr1, _hr2⟩ := below_reads hb1; have _hz := Below.size hb1; (try simp only [World.size_alloc, World.size_setCell, World.size_drew, World.heap_drewN] at _hz); obtain ⟨_hr3, _hr4⟩ := below_reads (show Below w.heap.size w w1 from bel); have _q0 : w.heap.size < w1.heap.size := (by omega); have _q1 : w.heap.size + 1 < w1.heap.size := (by omega); have _q2 : w.heap.size + 1 + 1 < w1.heap.size := (by omega))
        | (go_at_call 74; refine (HME.out _ bel).mono ?_; rintro e w2 ⟨rfl, hb2⟩; rw [M.out]; obtain ⟨_hr1, _hr2⟩ := below_reads hb2; have _hz := Below.size hb2; (try simp only [World.size_alloc, World.size_setCell, World.size_drew, World.heap_drewN] at _hz); obtain ⟨_hr3, _hr4⟩ := below_reads (show Below w.heap.size w w2 from bel); have _q0 : w.heap.size < w2.heap.size := (by omega); have _q1 : w.heap.size + 1 < w2.heap.size := (by omega); have _q2 : w.heap.size + 1 + 1 < w2.heap.size := (by omega)))
      go_ret
      exact ⟨ret_int R.out.symm, bel⟩
    · have M : Hid (meaErr x lo hi = 0) := Lib.hid (by simp [meaErr, ok.works, g2])
      have hmade := made_iff ok g2
      cases g3 : madeB x m ways lo hi
      · have R : Hid (agrErr x m ways lo hi = 17) := Lib.hid (by
          have : hadAny x (recRows x m ways) (meas lo hi) = false := hmade.trans g3
          simp [agrErr, g, g2, this])
        have G3 := Lib.hid g3
        clear g g2 g3 ok hmade
        go_enter Try.func67, Try.ntmps67
        go_wp2_with (first
          | (go_at_call 63; refine (HRE.out _ bel).mono ?_; rintro e w1 ⟨rfl, hb1⟩; rw [G.out]; obtain ⟨_hr1, _hr2⟩ := below_reads hb1; have _hz := Below.size hb1; (try simp only [World.size_alloc, World.size_setCell, World.size_drew, World.heap_drewN] at _hz); obtain ⟨_hr3, _hr4⟩ := below_reads (show Below w.heap.size w w1 from bel); have _q0 : w.heap.size < w1.heap.size := (by omega); have _q1 : w.heap.size + 1 < w1.heap.size := (by omega); have _q2 : w.heap.size + 1 + 1 < w1.heap.size := (by omega))
          | (go_at_call 74; refine (HME.out _ bel).mono ?_; rintro e w2 ⟨rfl, hb2⟩; rw [M.out]; obtain ⟨_hr1, _hr2⟩ := below_reads hb2; have _hz := Below.size hb2; (try simp only [World.size_alloc, World.size_setCell, World.size_drew, World.heap_drewN] at _hz); obtain ⟨_hr3, _hr4⟩ := below_reads (show Below w.heap.size w w2 from bel); have _q0 : w.heap.size < w2.heap.size := (by omega); have _q1 : w.heap.size + 1 < w2.heap.size := (by omega); have _q2 : w.heap.size + 1 + 1 < w2.heap.size := (by omega))
          | (go_at_call 97; refine (HMA.out _ bel).mono ?_; rintro e w3 ⟨rfl, hb3⟩; rw [G3.out]; obtain ⟨_hr1, _hr2⟩ := below_reads hb3; have _hz := Below.size hb3; (try simp only [World.size_alloc, World.size_setCell, World.size_drew, World.heap_drewN] at _hz); obtain ⟨_hr3, _hr4⟩ := below_reads (show Below w.heap.size w w3 from bel); have _q0 : w.heap.size < w3.heap.size := (by omega); have _q1 : w.heap.size + 1 < w3.heap.size := (by omega); have _q2 : w.heap.size + 1 + 1 < w3.heap.size := (by omega)))
        go_ret
        exact ⟨ret_int R.out.symm, bel⟩
      · have R : Hid (agrErr x m ways lo hi = 0) := Lib.hid (by
          have : hadAny x (recRows x m ways) (meas lo hi) = true := hmade.trans g3
          simp [agrErr, g, g2, this])
        have G3 := Lib.hid g3
        clear g g2 g3 ok hmade
        go_enter Try.func67, Try.ntmps67
        go_wp2_with (first
          | (go_at_call 63; refine (HRE.out _ bel).mono ?_; rintro e w1 ⟨rfl, hb1⟩; rw [G.out]; obtain ⟨_hr1, _hr2⟩ := below_reads hb1; have _hz := Below.size hb1; (try simp only [World.size_alloc, World.size_setCell, World.size_drew, World.heap_drewN] at _hz); obtain ⟨_hr3, _hr4⟩ := below_reads (show Below w.heap.size w w1 from bel); have _q0 : w.heap.size < w1.heap.size := (by omega); have _q1 : w.heap.size + 1 < w1.heap.size := (by omega); have _q2 : w.heap.size + 1 + 1 < w1.heap.size := (by omega))
          | (go_at_call 74; refine (HME.out _ bel).mono ?_; rintro e w2 ⟨rfl, hb2⟩; rw [M.out]; obtain ⟨_hr1, _hr2⟩ := below_reads hb2; have _hz := Below.size hb2; (try simp only [World.size_alloc, World.size_setCell, World.size_drew, World.heap_drewN] at _hz); obtain ⟨_hr3, _hr4⟩ := below_reads (show Below w.heap.size w w2 from bel); have _q0 : w.heap.size < w2.heap.size := (by omega); have _q1 : w.heap.size + 1 < w2.heap.size := (by omega); have _q2 : w.heap.size + 1 + 1 < w2.heap.size := (by omega))
          | (go_at_call 97; refine (HMA.out _ bel).mono ?_; rintro e w3 ⟨rfl, hb3⟩; rw [G3.out]; obtain ⟨_hr1, _hr2⟩ := below_reads hb3; have _hz := Below.size hb3; (try simp only [World.size_alloc, World.size_setCell, World.size_drew, World.heap_drewN] at _hz); obtain ⟨_hr3, _hr4⟩ := below_reads (show Below w.heap.size w w3 from bel); have _q0 : w.heap.size < w3.heap.size := (by omega); have _q1 : w.heap.size + 1 < w3.heap.size := (by omega); have _q2 : w.heap.size + 1 + 1 < w3.heap.size := (by omega)))
        go_ret
        exact ⟨ret_int R.out.symm, bel⟩
  · have R : Hid (agrErr x bar ways lo hi = recErr x bar ways) := Lib.hid (by simp [agrErr, g])
    have g' : (recErr x bar ways != 0) = true := by simp [g]
    clear g
    go_enter Try.func67, Try.ntmps67
    go_wp2_with fail
    refine (HRE.out _ bel).mono ?_
    rintro e w1 ⟨rfl, hb1⟩
    obtain ⟨_hr1, _hr2⟩ := below_reads hb1; have _hz := Below.size hb1; (try simp only [World.size_alloc, World.size_setCell, World.size_drew, World.heap_drewN] at _hz); obtain ⟨_hr3, _hr4⟩ := below_reads (show Below w.heap.size w w1 from bel); have _q0 : w.heap.size < w1.heap.size := (by omega); have _q1 : w.heap.size + 1 < w1.heap.size := (by omega); have _q2 : w.heap.size + 1 + 1 < w1.heap.size := (by omega)
    go_wp2_with fail
    refine (HRE.out _ bel).mono ?_
    rintro e w2 ⟨rfl, hb2⟩
    have _q0 : w.heap.size < w2.heap.size := by have := hb2.size; omega
    have _q1 : w.heap.size + 1 < w2.heap.size := by have := hb2.size; omega
    have _q2 : w.heap.size + 1 + 1 < w2.heap.size := by have := hb2.size; omega
    go_wp2_with fail
    go_ret
    exact ⟨ret_int R.out.symm, bel⟩
end Go.Proofs.Ytigpefjeelgfdaa

/-
  Walks of layer 1's reference: from which to which hardness histories have been.
-/
namespace Go.Proofs.Ytigpefjeelgfdaa
open Go.RowKit

/-- Ranges in a block of the call's own, range j being f j. -/
structure OwnR (w : World) (base g c : Nat) (f : Nat → Rg) (n : Nat) : Prop where
  base : base ≤ g
  lt : g < w.heap.size
  cap : n ≤ c
  max : c ≤ 9223372036854775807
  lo : ∀ j, j < n → w.cell? ⟨g, j * 2, none⟩ = some (.int .i64 (f j).1)
  hi : ∀ j, j < n → w.cell? ⟨g, j * 2 + 1, none⟩ = some (.int .i64 (f j).2)
  fz : ∀ k, w.frozen? ⟨g, k, none⟩ = false
theorem OwnR.later {w w' : World} {base g c n : Nat} {f : Nat → Rg} (h : OwnR w base g c f n) {b : Nat} (hb : Below b w w') (hg : g < b) : OwnR w' base g c f n :=
  ⟨h.base, Nat.lt_of_lt_of_le h.lt hb.size, h.cap, h.max, fun j hj => (hb.cell (p := ⟨g, j * 2, none⟩) hg).trans (h.lo j hj), fun j hj => (hb.cell (p := ⟨g, j * 2 + 1, none⟩) hg).trans (h.hi j hj), fun k => (hb.frozen (p := ⟨g, k, none⟩) hg).trans (h.fz k)⟩
theorem OwnR.congr {w : World} {base g c n : Nat} {f f' : Nat → Rg} (h : OwnR w base g c f n) (e : ∀ j, j < n → f j = f' j) : OwnR w base g c f' n :=
  ⟨h.base, h.lt, h.cap, h.max, fun j hj => by rw [← e j hj]; exact h.lo j hj, fun j hj => by rw [← e j hj]; exact h.hi j hj, h.fz⟩
theorem OwnR.far {w : World} {base g c n : Nat} {f : Nat → Rg} (h : OwnR w base g c f n) {p : Addr} (hp : p.block ≠ g) (u : Value) : OwnR (w.setCell p u) base g c f n :=
  ⟨h.base, by simpa using h.lt, h.cap, h.max, fun j hj => (World.cell?_setCell_far w p _ u hp).trans (h.lo j hj), fun j hj => (World.cell?_setCell_far w p _ u hp).trans (h.hi j hj), fun k => by rw [World.frozen?_setCell]; exact h.fz k⟩
theorem OwnR.set {w : World} {base g c n : Nat} {f : Nat → Rg} (h : OwnR w base g c f n) {i : Nat} (hi : i < n) (a b : Int) :
    OwnR ((w.setCell ⟨g, i * 2, none⟩ (.int .i64 a)).setCell ⟨g, i * 2 + 1, none⟩ (.int .i64 b)) base g c (fun j => if j = i then (a, b) else f j) n := by
  refine ⟨h.base, by simpa using h.lt, h.cap, h.max, fun j hj => ?_, fun j hj => ?_, fun k => by rw [World.frozen?_setCell, World.frozen?_setCell]; exact h.fz k⟩
  · rw [World.cell?_setCell_other _ _ _ _ (by intro e; simp at e; try omega)]
    by_cases e : j = i
    · subst e
      simp only [if_true]
      exact World.cell?_setCell_same _ _ _ (h.lo j hj)
    · simp only [if_neg e]
      rw [World.cell?_setCell_other _ _ _ _ (by intro e'; simp at e'; try omega)]
      exact h.lo j hj
  · by_cases e : j = i
    · subst e
      simp only [if_true]
      refine World.cell?_setCell_same _ _ _ (u := .int .i64 (f j).2) ?_
      rw [World.cell?_setCell_other _ _ _ _ (by intro e'; simp at e')]
      exact h.hi j hj
    · simp only [if_neg e]
      rw [World.cell?_setCell_other _ _ _ _ (by intro e'; simp at e'; try omega), World.cell?_setCell_other _ _ _ _ (by intro e'; simp at e'; try omega)]
      exact h.hi j hj
theorem OwnR.rgs {w : World} {base g c n : Nat} {f : Nat → Rg} (h : OwnR w base g c f n) : Rgs w w.heap.size (.slice (some ⟨g, 0, none⟩) n c) ((List.range n).map f) :=
  ⟨some ⟨g, 0, none⟩, c, by simp, by simpa using h.cap, h.max, fun _ => ⟨g, 0, rfl, h.lt, fun i x hi => by
    have hin : i < n := by
      rcases Nat.lt_or_ge i n with h1 | h1
      · exact h1
      · rw [List.getElem?_eq_none (by simpa using h1)] at hi; cases hi
    rw [List.getElem?_map, List.getElem?_range hin] at hi
    simp only [Option.map_some, Option.some.injEq] at hi
    subst hi
    refine ⟨?_, ?_⟩
    · rw [Nat.zero_add]; exact h.lo i hin
    · rw [Nat.zero_add]; exact h.hi i hin⟩⟩
theorem own_ranges {w : World} {base : Nat} {v : Value} {x : Works} {m : Nat} {ways : List Int} {n : Nat} (h : w.ownsRow base 33 2 v (n + 1) (rngTo x m ways (n + 1))) : ∃ g c, v = .slice (some ⟨g, 0, none⟩) (n + 1) c ∧ OwnR w base g c (rngN x m ways) (n + 1) := by
  rcases h.2 with ⟨_, h2⟩ | ⟨g, cap, cur, hv, hb, hg, hnc, hcm, hcs, htake⟩
  · cases h2
  · refine ⟨g, cap, hv, hb, (Array.getElem?_eq_some_iff.1 hg).1, hnc, by unfold maxLen at hcm; omega, fun j hj => ?_, fun j hj => ?_, fun k => by simp [World.frozen?, hg]⟩
    · rw [cell_of_row w g (j * 2) cur 33 (0, 0) hg]
      have h0 := flatMap_get rgV 2 (fun _ => rfl) ((List.range (n + 1)).map (rngN x m ways)) j 0 (rngN x m ways j) (by rw [List.getElem?_map, List.getElem?_range hj]; rfl) (by omega)
      have h1 : (rngTo x m ways (n + 1))[j * 2 + 0]? = _ := h0
      rw [← htake, List.getElem?_take] at h1
      split at h1
      · simpa [rgV] using h1
      · cases h1
    · rw [cell_of_row w g (j * 2 + 1) cur 33 (0, 0) hg]
      have h0 := flatMap_get rgV 2 (fun _ => rfl) ((List.range (n + 1)).map (rngN x m ways)) j 1 (rngN x m ways j) (by rw [List.getElem?_map, List.getElem?_range hj]; rfl) (by omega)
      have h1 : (rngTo x m ways (n + 1))[j * 2 + 1]? = _ := h0
      rw [← htake, List.getElem?_take] at h1
      split at h1
      · simpa [rgV] using h1
      · cases h1

/-- What a scan has found, ahead of k: nothing; or the least and the greatest place. -/
def Scan (p : Nat → Bool) (a k : Nat) (lo hi : Int) : Prop :=
  (lo = -1 ∧ hi = -1 ∧ ∀ j, a ≤ j → j < k → p j = false) ∨
  (∃ u v : Nat, lo = u ∧ hi = v ∧ a ≤ u ∧ u ≤ v ∧ v < k ∧ p u = true ∧ p v = true ∧ (∀ j, a ≤ j → j < u → p j = false) ∧ ∀ j, v < j → j < k → p j = false)
theorem Scan.start (p : Nat → Bool) (a : Nat) : Scan p a a (-1) (-1) := .inl ⟨rfl, rfl, fun j h1 h2 => absurd h1 (by omega)⟩
theorem Scan.no {p : Nat → Bool} {a k : Nat} {lo hi : Int} (h : Scan p a k lo hi) (hp : p k = false) : Scan p a (k + 1) lo hi := by
  have hk : ∀ j, j < k + 1 → ¬ j < k → p j = false := fun j h1 h2 => by
    obtain rfl : j = k := by omega
    exact hp
  rcases h with ⟨h1, h2, h3⟩ | ⟨u, v, h1, h2, h3, h4, h5, h6, h7, h8, h9⟩
  · refine .inl ⟨h1, h2, fun j g1 g2 => ?_⟩
    by_cases e : j < k
    · exact h3 j g1 e
    · exact hk j g2 e
  · refine .inr ⟨u, v, h1, h2, h3, h4, by omega, h6, h7, h8, fun j g1 g2 => ?_⟩
    by_cases e : j < k
    · exact h9 j g1 e
    · exact hk j g2 e
theorem Scan.first {p : Nat → Bool} {a k : Nat} {lo hi : Int} (h : Scan p a k lo hi) (hl : lo < 0) (ha : a ≤ k) (hp : p k = true) : Scan p a (k + 1) k k := by
  rcases h with ⟨h1, h2, h3⟩ | ⟨u, v, h1, h2, h3, h4, h5, h6, h7, h8, h9⟩
  · exact .inr ⟨k, k, rfl, rfl, ha, Nat.le_refl _, by omega, hp, hp, h3, fun j g1 g2 => absurd g1 (by omega)⟩
  · omega
theorem Scan.more {p : Nat → Bool} {a k : Nat} {lo hi : Int} (h : Scan p a k lo hi) (hl : ¬ lo < 0) (hp : p k = true) : Scan p a (k + 1) lo k := by
  rcases h with ⟨h1, h2, h3⟩ | ⟨u, v, h1, h2, h3, h4, h5, h6, h7, h8, h9⟩
  · omega
  · exact .inr ⟨u, k, h1, rfl, h3, by omega, by omega, h6, hp, h8, fun j g1 g2 => absurd g1 (by omega)⟩

section
variable {x : Works} {m : Nat} {ways : List Int} {mlo mhi : Int}
/-- What is looked for at a step. -/
def hitB (x : Works) (m : Nat) (ways : List Int) (mlo mhi : Int) (s j : Nat) : Bool :=
  decide ((aft (wayOf x ways s) j).1 ≤ (hadE x m ways mlo mhi (s + 1)).2) && decide ((hadE x m ways mlo mhi (s + 1)).1 ≤ (aft (wayOf x ways s) j).2)
theorem Scan.done (ok : RecOk x m ways) (hany : hadAny x (rowOf x ways (barP x m)) (meas mlo mhi) = true) {s : Nat} (hs : s < x.steps.length) {k : Nat} {lo hi : Int}
    (h : Scan (hitB x m ways mlo mhi s) (rngN x m ways s).1.toNat k lo hi) (hk : (k : Int) = (rngN x m ways s).2 + 1) : hadE x m ways mlo mhi s = (lo, hi) := by
  have hv := rngN_val ok s (Nat.le_of_lt hs)
  have hb := hadE_val ok hany (Nat.le_of_lt hs)
  have key := hadE_step ok hany hs
  have hit : ∀ j : Nat, hitB x m ways mlo mhi s j = true ↔ (aft (wayOf x ways s) j).1 ≤ (hadE x m ways mlo mhi (s + 1)).2 ∧ (hadE x m ways mlo mhi (s + 1)).1 ≤ (aft (wayOf x ways s) j).2 := fun j => by simp [hitB]
  generalize hE : hadE x m ways mlo mhi s = E at *
  obtain ⟨a, b⟩ := E
  simp only at key hb ⊢
  have ka := (key a.toNat).1 (by omega)
  have kb := (key b.toNat).1 (by omega)
  have ha := (hit a.toNat).2 ka.2
  have hbb := (hit b.toNat).2 kb.2
  rcases h with ⟨h1, h2, h3⟩ | ⟨u, v, h1, h2, h3, h4, h5, h6, h7, h8, h9⟩
  · rw [h3 a.toNat (by omega) (by omega)] at ha
    cases ha
  · have ku := (key u).2 ⟨by omega, (hit u).1 h6⟩
    have kv := (key v).2 ⟨by omega, (hit v).1 h7⟩
    have g1 : ¬ a.toNat < u := fun g => by rw [h8 a.toNat (by omega) g] at ha; cases ha
    have g2 : ¬ v < b.toNat := fun g => by rw [h9 b.toNat g (by omega)] at hbb; cases hbb
    rw [Prod.mk.injEq]
    omega
/-- The ranges, those from t on already narrowed. -/
def partN (x : Works) (m : Nat) (ways : List Int) (mlo mhi : Int) (t j : Nat) : Rg := if t ≤ j then hadE x m ways mlo mhi j else rngN x m ways j
end
end Go.Proofs.Ytigpefjeelgfdaa

/-
  Walks of layer 1's reference: had.
-/
namespace Go.Proofs.Ytigpefjeelgfdaa
open Go.RowKit

set_option maxRecDepth 100000 in
set_option maxHeartbeats 4000000 in
theorem refhad_ok (Ab As Ar : Option Addr) (cb cs cr : Nat) (x : Works) (m : Nat) (ways : List Int) (mlo mhi : Int) (B : Nat) (w : World) (h : In w B Ab As Ar cb cs cr x ways) (ok : RecOk x (m : Int) ways)
    (hm : isHardB mlo mhi = true) (hany : hadAny x (rowOf x ways (barP x m)) (meas mlo mhi) = true) :
    Calls Try.prog 68 #[.agg #[.slice Ab x.bars.length cb, .slice As x.steps.length cs], .agg #[.int .i64 m, .slice Ar ways.length cr], .agg #[.int .i64 mlo, .int .i64 mhi]] w
      fun e w' => ∃ v, e = .returned (.tuple #[v, .bool true]) ∧ (Fact.rgs ((List.range (x.steps.length + 1)).map (hadE x m ways mlo mhi))).holds v w' ∧ Below w.heap.size w w' := by
  have hwl : Hid (ways.length = x.steps.length) := ok.len
  have hs6 := steps_few ok.works
  have hB := h.le
  have hrr : ∀ W : World, Below w.heap.size w W → Calls Try.prog 64 #[.agg #[.slice Ab x.bars.length cb, .slice As x.steps.length cs], .agg #[.int .i64 m, .slice Ar ways.length cr]] W fun e w' => ∃ v, e = .returned v ∧ Hid (w'.ownsRow W.heap.size 33 2 v (x.steps.length + 1) (rngTo x m ways (x.steps.length + 1))) ∧ Below W.heap.size W w' :=
    fun W hW => refranges_own Ab As Ar cb cs cr x m ways B W (h.on hW hB) ok
  have HRR := Lib.hid hrr
  clear hrr
  obtain ⟨a, b, hab⟩ : ∃ a b, rngN x m ways x.steps.length = (a, b) := ⟨_, _, rfl⟩
  have hv := rngN_val ok x.steps.length (Nat.le_refl _)
  have hl := hadE_last ok hany
  have hlv := hadE_val ok hany (Nat.le_refl x.steps.length)
  rw [hl] at hlv
  rw [hab] at hv hl hlv
  simp only at hv hl hlv
  have HL := Lib.hid hl
  have HAB := Lib.hid hab
  have OK := Lib.hid ok
  have HM := Lib.hid hm
  have HANY := Lib.hid hany
  have q1 : max a mlo ≤ min b mhi := by omega
  have s0 : (0 : Int) ≤ (x.steps.length : Int) := by omega
  clear hab ok hm hany hl hlv
  go_enter Try.func68, Try.ntmps68
  go_wp2_with (go_at_call 64; refine Calls.mono (HRR.out _ bel) ?_; rintro e w2 ⟨v2, rfl, ho, hb2⟩; obtain ⟨g, c, rfl, hO⟩ := own_ranges ho.out; clear ho; have k1 := hO.lo x.steps.length (by omega); have k2 := hO.hi x.steps.length (by omega); have k3 := hO.fz (x.steps.length * 2); have k4 := hO.fz (x.steps.length * 2 + 1); rw [HAB.out] at k1 k2; have k5 := hO.lt; have k6 := hO.base; simp only [World.size_alloc] at k6; obtain ⟨_hr1, _hr2⟩ := below_reads hb2; have _hz := Below.size hb2; (try simp only [World.size_alloc, World.size_setCell, World.size_drew, World.heap_drewN] at _hz); obtain ⟨_hr3, _hr4⟩ := below_reads (show Below w.heap.size w w2 from bel); have _q0 : w.heap.size < w2.heap.size := (by omega); have _q1 : w.heap.size + 1 < w2.heap.size := (by omega); have _q2 : w.heap.size + 1 + 1 < w2.heap.size := (by omega))
  refine wp_region_later_tail 20 (by kernel_rfl) (by kernel_rfl) ?_; simp only [List.take_succ_cons, List.take_zero, List.drop_succ_cons, List.drop_zero]; have _hl := later_reads (w2); (repeat (go_big_quiet_step (fail))); refine wpQuiet_nil ?_; intro w3 hw'; have hb_w3 := later_below hw'; clear hw' _hl
  have hb1 : Below w.heap.size w w3 := bel
  have e1 : hadE x m ways mlo mhi x.steps.length = ((if a < mlo then mlo else a), (if mhi < b then mhi else b)) := by
    rw [HL.out, Prod.mk.injEq]
    constructor
    · split <;> omega
    · split <;> omega
  have q2 : (if a < mlo then mlo else a) ≤ (if mhi < b then mhi else b) := by
    split <;> split <;> omega
  generalize (if a < mlo then mlo else a) = L0 at e1 q2 ⊢
  generalize (if mhi < b then mhi else b) = H0 at e1 q2 ⊢
  have E1 := Lib.hid e1
  clear e1 q1 HL hv
  have hO3 := hO.later hb_w3 hO.lt
  have bw2 : Box w2 w.heap.size 25 #[.slice Ab x.bars.length cb, .slice As x.steps.length cs] := by exact bxt
  have br2 : Box w2 (w.heap.size + 1) 42 #[.int .i64 m, .slice Ar ways.length cr] := by exact bxt
  have bm2 : Box w2 (w.heap.size + 1 + 1) 33 #[.int .i64 mlo, .int .i64 mhi] := by exact bxt
  have bw3 := Box.below bw2 hb_w3 bw2.lt
  have br3 := Box.below br2 hb_w3 br2.lt
  have bm3 := Box.below bm2 hb_w3 bm2.lt
  clear k1 k2 k3 k4 k5 hO hb2 hb_w3 bw2 br2 bm2 _hr1 _hr2 _hr3 _hr4 _q0 _q1 _q2 _hz
  have k1 := hO3.lo x.steps.length (by omega)
  have k2 := hO3.hi x.steps.length (by omega)
  have k3 := hO3.fz (x.steps.length * 2)
  have k4 := hO3.fz (x.steps.length * 2 + 1)
  have k5 := hO3.lt
  rw [HAB.out] at k1 k2
  simp only at k1 k2
  go_wp2_with fail
  generalize hW4 : (w3.setCell ⟨g, x.steps.length * 2, none⟩ (.int .i64 L0)).setCell ⟨g, x.steps.length * 2 + 1, none⟩ (.int .i64 H0) = W4
  have hO4 : OwnR W4 (w.heap.size + 3) g c (partN x m ways mlo mhi x.steps.length) (x.steps.length + 1) := by
    rw [← hW4]
    have h1 := hO3.set (i := x.steps.length) (by omega) L0 H0
    refine ⟨by omega, h1.lt, h1.cap, h1.max, ?_, ?_, h1.fz⟩
    · intro j hj
      rw [h1.lo j hj]
      by_cases e : j = x.steps.length
      · subst e; simp only [if_true, partN, if_pos (Nat.le_refl _), E1.out]
      · simp only [if_neg e, partN]; rw [if_neg (by omega)]
    · intro j hj
      rw [h1.hi j hj]
      by_cases e : j = x.steps.length
      · subst e; simp only [if_true, partN, if_pos (Nat.le_refl _), E1.out]
      · simp only [if_neg e, partN]; rw [if_neg (by omega)]
  have hb4 : Below w.heap.size w W4 := by rw [← hW4]; exact bel
  have bw4 : Box W4 w.heap.size 25 #[.slice Ab x.bars.length cb, .slice As x.steps.length cs] := by rw [← hW4]; exact bxt
  have br4 : Box W4 (w.heap.size + 1) 42 #[.int .i64 m, .slice Ar ways.length cr] := by rw [← hW4]; exact bxt
  clear hW4 hO3 bw3 br3 bm3 k1 k2 k3 k4 k5 hb1
  have k1 := hO4.lo x.steps.length (by omega)
  have k2 := hO4.hi x.steps.length (by omega)
  have k5 := hO4.lt
  simp only [partN, if_pos (Nat.le_refl _), E1.out] at k1 k2
  refine wp_region_later (by kernel_rfl) (by kernel_rfl) ?_; have _hl := later_reads (W4); (repeat (go_big_quiet_step (fail))); refine wpQuiet_nil ?_; intro w5 hw'; have hb_w5 := later_below hw'; clear hw' _hl
  have hO5 := hO4.later hb_w5 hO4.lt
  have hb5 : Below w.heap.size w w5 := hb4.trans (hb_w5.mono hb4.size)
  have bw5 := Box.below bw4 hb_w5 bw4.lt
  have br5 := Box.below br4 hb_w5 br4.lt
  clear k1 k2 k5 hO4 bw4 br4 hb4 hb_w5
  go_wp2_with fail
  go_loopw [10] (fun i wr => ∃ (t : Nat) (z : Int), t ≤ x.steps.length ∧ i = .int .i64 z ∧ z = (t : Int) - 1 ∧ Below w.heap.size w wr ∧ OwnR wr (w.heap.size + 3) g c (partN x m ways mlo mhi t) (x.steps.length + 1) ∧
      Box wr w.heap.size 25 #[.slice Ab x.bars.length cb, .slice As x.steps.length cs] ∧ Box wr (w.heap.size + 1) 42 #[.int .i64 m, .slice Ar ways.length cr])
    (fun i _ => (intOf i + 1).toNat)
  case atStart => exact ⟨x.steps.length, _, Nat.le_refl _, rfl, rfl, hb5, hO5, bw5, br5⟩
  case round =>
    clear hO5 hb5 bw5 br5
    obtain ⟨t, z, ht, rfl, hz, hbl, hO, bw, br⟩ := hrel
    rcases t with _ | s
    · obtain rfl : z = -1 := by omega
      clear hz
      go_wp2_with fail
      refine bodyPost_ret (v := .tuple #[.slice (some ⟨g, 0, none⟩) (x.steps.length + 1) c, .bool true]) (by simp [results, Try.results68, go_sem, *]) rfl ?_
      refine ⟨_, rfl, ?_, hbl⟩
      have h1 := hO.rgs
      have e : (List.range (x.steps.length + 1)).map (partN x m ways mlo mhi 0) = (List.range (x.steps.length + 1)).map (hadE x m ways mlo mhi) := List.map_congr_left fun j _ => by simp only [partN, if_pos (Nat.zero_le _)]
      rw [e] at h1
      exact h1
    · obtain rfl : z = (s : Int) := by omega
      clear hz
      have hs : s < x.steps.length := ht
      obtain ⟨u5, u6, u7, u8⟩ := bw.two
      obtain ⟨t5, t6, t7, t8⟩ := br.two
      have hz1 := bw.lt
      have hz2 := br.lt
      have hg0 := hO.lt
      obtain ⟨b1, o1, b2, o2, b3, o3, A1, A2, c1, c2, ws, mm, ks, rfl, rfl, rfl, hb1', hb2', hb3', hmm, f1, f2, f3, l1, l2, l3, l4, hks, hwo, hwe, hne0, _⟩ := way_at h.steps h.rways OK.out hs
      have f1' := (hbl.cell (p := ⟨b1, o1 + s, none⟩) (by simp only []; omega)).trans f1
      have f2' := (hbl.cell (p := ⟨b2, o2 + s, none⟩) (by simp only []; omega)).trans f2
      have f3' := (hbl.cell (p := ⟨b3, o3 + mm, none⟩) (by simp only []; omega)).trans f3
      have v1 : b1 < wr.heap.size := by omega
      have v2 : b2 < wr.heap.size := by omega
      have v3 : b3 < wr.heap.size := by omega
      have s7 : (s : Int) < (ways.length : Int) := by have := hwl.out; omega
      have s8 : (mm : Int) < (ws.length : Int) := by omega
      have s9 : (s : Int) < (x.steps.length : Int) := by omega
      clear hwe
      have hcells : ∀ V, Below wr.heap.size wr V → (V.cell? ⟨w.heap.size, 0 + 1, none⟩ = some (.slice (some ⟨b1, o1, none⟩) x.steps.length cs) ∧ V.cell? ⟨w.heap.size + 1, 0 + 1, none⟩ = some (.slice (some ⟨b2, o2, none⟩) ways.length cr) ∧
          V.cell? ⟨b1, o1 + s, none⟩ = some (.slice (some ⟨b3, o3, none⟩) ws.length c1) ∧ V.cell? ⟨b2, o2 + s, none⟩ = some (.int .i64 mm) ∧ V.cell? ⟨b3, o3 + mm, none⟩ = some (.slice A2 ks.length c2)) :=
        fun V hV => ⟨(Box.below bw hV hz1).cell 1, (Box.below br hV hz2).cell 1, (hV.cell (p := ⟨b1, o1 + s, none⟩) v1).trans f1', (hV.cell (p := ⟨b2, o2 + s, none⟩) v2).trans f2', (hV.cell (p := ⟨b3, o3 + mm, none⟩) v3).trans f3'⟩
      have HC := Lib.hid hcells
      clear hcells
      go_wp2_with fail
      go_region_held3 (fun V => V.cell? ⟨w.heap.size, 0 + 1, none⟩ = some (.slice (some ⟨b1, o1, none⟩) x.steps.length cs) ∧ V.cell? ⟨w.heap.size + 1, 0 + 1, none⟩ = some (.slice (some ⟨b2, o2, none⟩) ways.length cr) ∧
          V.cell? ⟨b1, o1 + s, none⟩ = some (.slice (some ⟨b3, o3, none⟩) ws.length c1) ∧ V.cell? ⟨b2, o2 + s, none⟩ = some (.int .i64 mm) ∧ V.cell? ⟨b3, o3 + mm, none⟩ = some (.slice A2 ks.length c2)) ((exact HC.out _ bel)) (fail)
      generalize hW0 : (wr.alloc (.cells #[.slice A2 ks.length c2] 28)).drew = W0
      have hbl0 : Below wr.heap.size wr W0 := by rw [← hW0]; exact bel
      have bk0 : Box W0 wr.heap.size 28 #[.slice A2 ks.length c2] := by rw [← hW0]; exact bxt
      have bw0 := Box.below bw hbl0 hz1
      have br0 := Box.below br hbl0 hz2
      have hO0 := hO.later hbl0 hg0
      have hb0 : Below w.heap.size w W0 := hbl.trans (hbl0.mono hbl.size)
      have hgk : g ≠ wr.heap.size := by omega
      have hgb := hO0.base
      generalize wr.heap.size = tk at bk0 hgk hz1 hz2 ⊢
      obtain ⟨ra', rb, hra⟩ : ∃ a b, rngN x m ways s = (a, b) := ⟨_, _, rfl⟩
      have hrv := rngN_val OK.out s (Nat.le_of_lt hs)
      rw [hra] at hrv
      simp only at hrv
      obtain ⟨ra, rfl⟩ := Int.eq_ofNat_of_zero_le hrv.1
      obtain ⟨L, H, hLH⟩ : ∃ a b, hadE x m ways mlo mhi (s + 1) = (a, b) := ⟨_, _, rfl⟩
      have hd : ∀ V, Below W0.heap.size W0 V → V.cell? ⟨g, s * 2, none⟩ = some (.int .i64 ra) ∧ V.cell? ⟨g, s * 2 + 1, none⟩ = some (.int .i64 rb) ∧ V.cell? ⟨g, (s + 1) * 2, none⟩ = some (.int .i64 L) ∧ V.cell? ⟨g, (s + 1) * 2 + 1, none⟩ = some (.int .i64 H) := fun V hV => by
        have hV' := hO0.later hV hO0.lt
        have h1 := hV'.lo s (by omega)
        have h2 := hV'.hi s (by omega)
        have h3 := hV'.lo (s + 1) (by omega)
        have h4 := hV'.hi (s + 1) (by omega)
        simp only [partN, if_neg (show ¬ s + 1 ≤ s by omega), hra] at h1 h2
        simp only [partN, if_pos (Nat.le_refl (s + 1)), hLH] at h3 h4
        exact ⟨h1, h2, h3, h4⟩
      have HD := Lib.hid hd
      have hkk : ∀ V, Below W0.heap.size W0 V → V.cell? ⟨tk, 0, none⟩ = some (.slice A2 ks.length c2) := fun V hV => (Box.below bk0 hV bk0.lt).cell 0
      have HK := Lib.hid hkk
      have haf : ∀ (n : Int) (V : World), Below W0.heap.size W0 V → Calls Try.prog 55 #[.agg #[.slice A2 ks.length c2], .int .i64 n] V fun e w' => e = .returned (.agg #[.int .i64 (aft ks n).1, .int .i64 (aft ks n).2]) ∧ Below V.heap.size V w' :=
        fun n V hV => refAfter_any A2 c2 ks n B V (kinks_on hks (n := w.heap.size) (hb0.trans (hV.mono hb0.size)) hB) l3 l4 (by have := hV.size; have := hb0.size; omega) hne0
      have HAF := Lib.hid haf
      have hhit : ∀ j : Nat, hitB x m ways mlo mhi s j = (decide ((aft ks j).1 ≤ H) && decide (L ≤ (aft ks j).2)) := fun j => by simp only [hitB, hwo.out, hLH]
      have HHIT := Lib.hid hhit
      have HRA := Lib.hid hra
      have hk0 := bk0.lt
      have hgl := hO0.lt
      have hbsz := hb0.size
      have s10 : IntKind.i64.wrap ((s : Int) + 1) = (s : Int) + 1 := IntWalk.i64_in _ (by omega)
      have s11 : (s : Int) + 1 < (x.steps.length : Int) + 1 := by omega
      have s12 : (s : Int) < (x.steps.length : Int) + 1 := by omega
      have s13 : (0 : Int) ≤ (s : Int) + 1 := by omega
      have s14 : ((s : Int) + 1).toNat = s + 1 := by omega
      clear hd hkk haf hhit hra hLH HC f1 f2 f3 f1' f2' f3' u5 u6 u7 u8 t5 t6 t7 t8 hW0 hks
      obtain ⟨d1, d2, d3, d4⟩ := HD.out W0 (Below.refl _ _)
      go_wp2_with fail
      obtain ⟨wo, rfl⟩ : ∃ wo : World, wo = wr := ⟨_, rfl⟩
      clear d1 d2 d3 d4
      go_loopw [12, 13, 14] (fun lo hi hh wr => ∃ (j : Nat) (zl zh : Int), ra ≤ j ∧ (j : Int) ≤ rb + 1 ∧ hh = .int .i64 j ∧ lo = .int .i64 zl ∧ hi = .int .i64 zh ∧ Scan (hitB x m ways mlo mhi s) ra j zl zh ∧ Below W0.heap.size W0 wr)
        (fun _ _ hh _ => (rb + 1 - intOf hh).toNat)
      case atStart => exact ⟨ra, -1, -1, Nat.le_refl _, by omega, rfl, rfl, rfl, Scan.start _ _, Below.refl _ _⟩
      case round =>
        obtain ⟨j, zl, zh, hj1, hj2, rfl, rfl, rfl, hsc, hbl2⟩ := hrel
        obtain ⟨d1, d2, d3, d4⟩ := HD.out _ hbl2
        have e1 := HK.out _ hbl2
        have y0 := hbl2.size
        have y1 : g < wr.heap.size := by omega
        have y2 : tk < wr.heap.size := by omega
        have hw1000 : (j : Int) ≤ 1001 := by omega
        by_cases hjr : (j : Int) ≤ rb
        · obtain ⟨pp, qq, hpq⟩ : ∃ a b, aft ks (j : Int) = (a, b) := ⟨_, _, rfl⟩
          have hhj := HHIT.out j
          rw [hpq] at hhj
          simp only at hhj
          have HPQ := Lib.hid hpq
          have HHJ := Lib.hid hhj
          clear hpq hhj
          by_cases c1 : pp ≤ H
          · by_cases c2 : L ≤ qq
            · have hyes : Hid (hitB x m ways mlo mhi s j = true) := Lib.hid (by rw [HHJ.out, decide_eq_true c1, decide_eq_true c2]; rfl)
              by_cases c3 : zl < 0
              · go_wp2_with (go_at_call 55; refine (HAF.out _ _ bel).mono ?_; rintro e w6 ⟨rfl, hb6⟩; rw [HPQ.out]; have hb6' : Below W0.heap.size W0 w6 := hbl2.trans (hb6.mono hbl2.size); obtain ⟨d1, d2, d3, d4⟩ := HD.out _ hb6'; have y6 := hb6'.size; have y7 : g < w6.heap.size := (by omega))
                go_quiet (fail)
                go_wp2_with fail
                go_roundw
                case rel => exact ⟨j + 1, j, j, by omega, by omega, by go_num, rfl, rfl, hsc.first c3 hj1 hyes.out, bel⟩
                case measure => simp [intOf]; omega
              · go_wp2_with (go_at_call 55; refine (HAF.out _ _ bel).mono ?_; rintro e w6 ⟨rfl, hb6⟩; rw [HPQ.out]; have hb6' : Below W0.heap.size W0 w6 := hbl2.trans (hb6.mono hbl2.size); obtain ⟨d1, d2, d3, d4⟩ := HD.out _ hb6'; have y6 := hb6'.size; have y7 : g < w6.heap.size := (by omega))
                go_quiet (fail)
                go_wp2_with fail
                go_roundw
                case rel => exact ⟨j + 1, zl, j, by omega, by omega, by go_num, rfl, rfl, hsc.more (by omega) hyes.out, bel⟩
                case measure => simp [intOf]; omega
            · have hno : Hid (hitB x m ways mlo mhi s j = false) := Lib.hid (by rw [HHJ.out, decide_eq_false c2, Bool.and_false])
              go_wp2_with (go_at_call 55; refine (HAF.out _ _ bel).mono ?_; rintro e w6 ⟨rfl, hb6⟩; rw [HPQ.out]; have hb6' : Below W0.heap.size W0 w6 := hbl2.trans (hb6.mono hbl2.size); obtain ⟨d1, d2, d3, d4⟩ := HD.out _ hb6'; have y6 := hb6'.size; have y7 : g < w6.heap.size := (by omega))
              go_quiet (fail)
              go_wp2_with fail
              go_roundw
              case rel => exact ⟨j + 1, zl, zh, by omega, by omega, by go_num, rfl, rfl, hsc.no hno.out, bel⟩
              case measure => simp [intOf]; omega
          · have hno : Hid (hitB x m ways mlo mhi s j = false) := Lib.hid (by rw [HHJ.out, decide_eq_false c1, Bool.false_and])
            have hd1 : decide (pp ≤ H) = false := by simpa using c1
            go_wp2_with (go_at_call 55; refine (HAF.out _ _ bel).mono ?_; rintro e w6 ⟨rfl, hb6⟩; rw [HPQ.out]; have hb6' : Below W0.heap.size W0 w6 := hbl2.trans (hb6.mono hbl2.size); obtain ⟨d1, d2, d3, d4⟩ := HD.out _ hb6'; have y6 := hb6'.size; have y7 : g < w6.heap.size := (by omega))
            go_quiet (fail)
            go_wp2_with fail
            go_roundw
            case rel => exact ⟨j + 1, zl, zh, by omega, by omega, by go_num, rfl, rfl, hsc.no hno.out, bel⟩
            case measure => simp [intOf]; omega
        · have hend := Scan.done OK.out HANY.out hs (by rw [HRA.out]; simp only [Int.toNat_natCast]; exact hsc) (by rw [HRA.out]; show (j : Int) = rb + 1; omega)
          have HEND := Lib.hid hend
          clear hend
          have hO2 := hO0.later hbl2 hgl
          have f0 := hO2.fz (s * 2)
          have f1 := hO2.fz (s * 2 + 1)
          have bw2 := Box.below bw0 hbl2 bw0.lt
          have br2 := Box.below br0 hbl2 br0.lt
          have hb2 : Below w.heap.size w wr := hb0.trans (hbl2.mono hb0.size)
          go_wp2_with fail
          have hO3 := (hO2.set (i := s) (by omega) zl zh).congr (f' := partN x m ways mlo mhi s) (fun j hj => by
            by_cases e : j = s
            · subst e; simp only [if_true, partN, if_pos (Nat.le_refl _), HEND.out]
            · simp only [if_neg e, partN]
              by_cases e2 : s + 1 ≤ j
              · rw [if_pos e2, if_pos (by omega)]
              · rw [if_neg e2, if_neg (by omega)])
          go_roundw
          case rel =>
            refine ⟨s, _, by omega, rfl, rfl, bel, hO3, ?_, ?_⟩
            all_goals exact bxt
          case measure => simp [intOf]
end Go.Proofs.Ytigpefjeelgfdaa

/-
  Walks of layer 1's reference: Had.
-/
namespace Go.Proofs.Ytigpefjeelgfdaa
open Go.RowKit

def hadsOf (x : Works) (bar : Int) (ways : List Int) (lo hi : Int) : List Rg := endsL (agrRows x bar ways lo hi) (x.steps.length + 1)
theorem heatHad_first {Ab As Ar : Option Addr} {cb cs cr : Nat} {x : Works} {bar : Int} {ways : List Int} {lo hi : Int} {B : Nat} {w : World} (h : In w B Ab As Ar cb cs cr x ways) :
    CallsF 28 #[.agg #[.slice Ab x.bars.length cb, .slice As x.steps.length cs], .agg #[.int .i64 bar, .slice Ar ways.length cr], .agg #[.int .i64 lo, .int .i64 hi]] w
      (Fact.first (Fact.rgs (orNil (agrErr x bar ways lo hi) (hadsOf x bar ways lo hi))) (.int .i64 (agrErr x bar ways lo hi))) :=
  (heatHad_read h).imp fun _ _ hv => res_rgs hv
theorem agrErr_zero {x : Works} {m : Nat} {ways : List Int} {lo hi : Int} (h : agrErr x m ways lo hi = 0) : RecOk x m ways ∧ isHardB lo hi = true ∧ hadAny x (rowOf x ways (barP x m)) (meas lo hi) = true := by
  unfold agrErr at h
  by_cases g1 : recErr x m ways = 0
  · rw [if_neg (by simpa using g1)] at h
    cases g2 : isHardB lo hi
    · rw [if_pos g2] at h; cases h
    · rw [if_neg (by simp [g2])] at h
      cases g3 : hadAny x (recRows x m ways) (meas lo hi)
      · rw [if_pos g3] at h; cases h
      · exact ⟨recOk_iff.1 g1, rfl, g3⟩
  · rw [if_pos (by simpa using g1)] at h
    exact absurd h g1

set_option maxHeartbeats 1000000 in
theorem refHad_first {Ab As Ar : Option Addr} {cb cs cr : Nat} {x : Works} {bar : Int} {ways : List Int} {lo hi : Int} {B : Nat} {w : World} (h : In w B Ab As Ar cb cs cr x ways) :
    CallsF 29 #[.agg #[.slice Ab x.bars.length cb, .slice As x.steps.length cs], .agg #[.int .i64 bar, .slice Ar ways.length cr], .agg #[.int .i64 lo, .int .i64 hi]] w
      (Fact.first (Fact.rgs (orNil (agrErr x bar ways lo hi) (hadsOf x bar ways lo hi))) (.int .i64 (agrErr x bar ways lo hi))) := by
  have hB := h.le
  have hre : ∀ W : World, Below w.heap.size w W → Calls Try.prog 67 #[.agg #[.slice Ab x.bars.length cb, .slice As x.steps.length cs], .agg #[.int .i64 bar, .slice Ar ways.length cr], .agg #[.int .i64 lo, .int .i64 hi]] W fun e w' => e = .returned (.int .i64 (agrErr x bar ways lo hi)) ∧ Below W.heap.size W w' :=
    fun W hW => refHadError_any Ab As Ar cb cs cr x bar ways lo hi B W (h.on hW hB)
  have HRE := Lib.hid hre
  clear hre
  by_cases g : agrErr x bar ways lo hi = 0
  · have grec := agrErr_rec g
    have ok0 := recOk_iff.1 grec
    obtain ⟨m, hbar⟩ := Int.eq_ofNat_of_zero_le ok0.bar0
    subst hbar
    obtain ⟨ok, hm, hany⟩ := agrErr_zero g
    have hrr : ∀ W : World, Below w.heap.size w W → Calls Try.prog 68 #[.agg #[.slice Ab x.bars.length cb, .slice As x.steps.length cs], .agg #[.int .i64 m, .slice Ar ways.length cr], .agg #[.int .i64 lo, .int .i64 hi]] W fun e w' => ∃ v, e = .returned (.tuple #[v, .bool true]) ∧ (Fact.rgs (hadsOf x m ways lo hi)).holds v w' ∧ Below W.heap.size W w' :=
      fun W hW => refhad_ok Ab As Ar cb cs cr x m ways lo hi B W (h.on hW hB) ok hm hany
    have HRR := Lib.hid hrr
    have G := Lib.hid g
    clear hrr g ok ok0 grec hm hany
    go_enter Try.func29, Try.ntmps29
    go_wp2_with (first
      | (go_at_call 67; refine (HRE.out _ bel).mono ?_; rintro e w1 ⟨rfl, hb1⟩; rw [G.out]; obtain ⟨_hr1, _hr2⟩ := below_reads hb1; have _hz := Below.size hb1; (try simp only [World.size_alloc, World.size_setCell, World.size_drew, World.heap_drewN] at _hz); obtain ⟨_hr3, _hr4⟩ := below_reads (show Below w.heap.size w w1 from bel); have _q0 : w.heap.size < w1.heap.size := (by omega); have _q1 : w.heap.size + 1 < w1.heap.size := (by omega); have _q2 : w.heap.size + 1 + 1 < w1.heap.size := (by omega))
      | (go_at_call 68; refine Calls.mono (HRR.out _ bel) ?_; rintro e w2 ⟨v2, rfl, hv2, hb2⟩; have HV2 := Lib.hid hv2; clear hv2; obtain ⟨_hr1, _hr2⟩ := below_reads hb2; have _hz := Below.size hb2; (try simp only [World.size_alloc, World.size_setCell, World.size_drew, World.heap_drewN] at _hz); obtain ⟨_hr3, _hr4⟩ := below_reads (show Below w.heap.size w w2 from bel); have _q0 : w.heap.size < w2.heap.size := (by omega); have _q1 : w.heap.size + 1 < w2.heap.size := (by omega); have _q2 : w.heap.size + 1 + 1 < w2.heap.size := (by omega)))
    refine bodyPost_ret (v := .tuple #[v2, .int .i64 0]) (by simp [results, Try.results29, go_sem, *]) rfl ?_
    refine ⟨_, rfl, ⟨v2, by rw [G.out], ?_⟩, bel⟩
    rw [G.out]
    exact HV2.out
  · have g' : (agrErr x bar ways lo hi != 0) = true := by simp [g]
    have G := Lib.hid g
    clear g
    go_enter Try.func29, Try.ntmps29
    go_wp2_with fail
    refine (HRE.out _ bel).mono ?_
    rintro e w1 ⟨rfl, hb1⟩
    obtain ⟨_hr1, _hr2⟩ := below_reads hb1; have _hz := Below.size hb1; (try simp only [World.size_alloc, World.size_setCell, World.size_drew, World.heap_drewN] at _hz); obtain ⟨_hr3, _hr4⟩ := below_reads (show Below w.heap.size w w1 from bel); have _q0 : w.heap.size < w1.heap.size := (by omega); have _q1 : w.heap.size + 1 < w1.heap.size := (by omega); have _q2 : w.heap.size + 1 + 1 < w1.heap.size := (by omega)
    go_wp2_with fail
    refine (HRE.out _ bel).mono ?_
    rintro e w2 ⟨rfl, hb2⟩
    have _q0 : w.heap.size < w2.heap.size := by have := hb2.size; omega
    have _q1 : w.heap.size + 1 < w2.heap.size := by have := hb2.size; omega
    have _q2 : w.heap.size + 1 + 1 < w2.heap.size := by have := hb2.size; omega
    go_wp2_with fail
    refine bodyPost_ret (v := .tuple #[.slice none 0 0, .int .i64 (agrErr x bar ways lo hi)]) (by simp [results, Try.results29, go_sem, *]) rfl ?_
    refine ⟨_, rfl, ⟨_, rfl, ?_⟩, bel⟩
    unfold orNil
    rw [if_neg G.out]
    exact SL.nil _ _ _ _
end Go.Proofs.Ytigpefjeelgfdaa

/-
  The bridge between the engine's data and the words for memory of the elder texts.
-/
namespace Go.Proofs.Ytigpefjeelgfdaa.Eng
open Go.RowKit

theorem sl_of_dl {α : Type} {R : World → Nat → Nat → α → Prop} {row : α → List Dat} {size : Nat} {ro : Nat → Prop} {w : World} {B : Nat} (hsz : ∀ x, (row x).length = size) (hro : ∀ b, ro b → b < B) {l : List α}
    (hR : ∀ b off x, x ∈ l → b < B → (∀ j c, (row x)[j]? = some c → ∃ u, w.cell? ⟨b, off + j, none⟩ = some u ∧ RepD ro w c u) → R w b off x) {v : Value} (h : RepD ro w (.list (l.map row)) v) : SL R size w B v l := by
  generalize hrows : l.map row = rows at h
  cases h with
  | list _ A c f h1 h2 h3 h4 h5 =>
    subst hrows
    rw [List.length_map] at h1 h4
    refine ⟨A, c, by rw [List.length_map], h1, by simpa [maxLen] using h2, fun hn => ?_⟩
    obtain ⟨b, off, esz, hA, hb, hz, hc⟩ := h4 hn
    have hes : esz = size := by
      obtain ⟨x, hx⟩ : ∃ x, l[0]? = some x := ⟨_, List.getElem?_eq_getElem hn⟩
      rw [← hz (row x) (List.mem_map.2 ⟨x, List.mem_of_getElem? hx, rfl⟩), hsz]
    subst hes
    refine ⟨b, off, hA, hro b hb, fun i x hi => hR b _ x (List.mem_of_getElem? hi) (hro b hb) fun j c hj => ?_⟩
    have hi' := (List.getElem?_eq_some_iff.1 hi).1
    have hj' : j < esz := by rw [← hsz x]; exact (List.getElem?_eq_some_iff.1 hj).1
    exact ⟨_, hc i j hi' hj', h5 i j (row x) c (by rw [List.getElem?_map, hi]; rfl) hj⟩
theorem dl_of_sl {α : Type} {R : World → Nat → Nat → α → Prop} {row : α → List Dat} {size : Nat} {ro : Nat → Prop} {w : World} {B : Nat} (hsz : ∀ x, (row x).length = size) (h1c : ∀ x, ∀ c ∈ row x, c.one = true) (hro : ∀ b, b < B → ro b) {l : List α}
    (hR : ∀ b off x, x ∈ l → b < B → R w b off x → ∀ j c, (row x)[j]? = some c → ∃ u, w.cell? ⟨b, off + j, none⟩ = some u ∧ RepD ro w c u) {v : Value} (h : SL R size w B v l) : RepD ro w (.list (l.map row)) v := by
  obtain ⟨A, c, rfl, h1, h2, h3⟩ := h
  have hl : (l.map row).length = l.length := List.length_map _
  rw [← hl]
  rcases Nat.eq_zero_or_pos l.length with h0 | h0
  · obtain rfl := List.length_eq_zero_iff.1 h0
    exact .list _ A c (fun _ _ => default) (by simp) (by simpa [maxLen] using h2) (by simp) (by simp) (by simp)
  · obtain ⟨b, off, hA, hb, hx⟩ := h3 h0
    refine .list _ A c (fun i j => (w.cell? ⟨b, off + i * size + j, none⟩).getD default) (by simpa using h1) (by simpa [maxLen] using h2) ?_ (fun _ => ⟨b, off, size, hA, hro b hb, ?_, ?_⟩) ?_
    · intro r hr c hc
      obtain ⟨x, _, rfl⟩ := List.mem_map.1 hr
      exact h1c x c hc
    · intro r hr
      obtain ⟨x, _, rfl⟩ := List.mem_map.1 hr
      exact hsz x
    · intro i j hi hj
      rw [hl] at hi
      have hxi := hx i _ (List.getElem?_eq_getElem hi)
      have hj2 : j < (row l[i]).length := by rw [hsz]; exact hj
      obtain ⟨u, hu, _⟩ := hR b _ _ (List.getElem_mem hi) hb hxi j _ (List.getElem?_eq_getElem hj2)
      rw [hu]; rfl
    · intro i j r c hr hc
      rw [List.getElem?_map, Option.map_eq_some_iff] at hr
      obtain ⟨x, hxl, rfl⟩ := hr
      obtain ⟨u, hu, hru⟩ := hR b _ _ (List.mem_of_getElem? hxl) hb (hx i x hxl) j c hc
      rw [hu]; exact hru

theorem val_inv {ro : Nat → Prop} {w : World} {x v : Value} (h : RepD ro w (.val x) v) : v = x := by cases h; rfl
theorem agg_inv {ro : Nat → Prop} {w : World} {cs : List Dat} {v : Value} (h : RepD ro w (.agg cs) v) : ∃ vs : Array Value, v = .agg vs ∧ vs.size = cs.length ∧ ∀ (i : Nat) c u, cs[i]? = some c → vs[i]? = some u → RepD ro w c u := by
  cases h with | agg _ vs h1 h2 h3 => exact ⟨vs, rfl, h1, h3⟩
theorem agg2_inv {ro : Nat → Prop} {w : World} {a b : Dat} {v : Value} (h : RepD ro w (.agg [a, b]) v) : ∃ x y, v = .agg #[x, y] ∧ RepD ro w a x ∧ RepD ro w b y := by
  obtain ⟨vs, rfl, h1, h2⟩ := agg_inv h
  obtain ⟨l⟩ := vs
  match l, h1 with
  | [x, y], _ => exact ⟨x, y, rfl, h2 0 a x rfl rfl, h2 1 b y rfl rfl⟩
theorem iD_inv {ro : Nat → Prop} {w : World} {n : Int} {v : Value} (h : RepD ro w (iD n) v) : v = .int .i64 n := val_inv h
theorem ints_of {ro : Nat → Prop} {w : World} {B : Nat} (hro : ∀ b, ro b → b < B) {l : List Int} {v : Value} (h : RepD ro w (intL l) v) : Ints .i64 w B v l :=
  sl_of_dl (row := fun n => [iD n]) (fun _ => rfl) hro (fun b off x _ _ hj => by
    obtain ⟨u, h1, h2⟩ := hj 0 _ rfl
    rw [iD_inv h2] at h1
    exact h1) h
theorem of_ints {ro : Nat → Prop} {w : World} {B : Nat} (hro : ∀ b, b < B → ro b) {l : List Int} {v : Value} (h : Ints .i64 w B v l) : RepD ro w (intL l) v :=
  dl_of_sl (row := fun n => [iD n]) (fun _ => rfl) (by simp [Dat.one]) hro (fun b off x _ _ hx j c hj => by
    match j with
    | 0 => simp at hj; subst hj; exact ⟨_, hx, .val _ rfl⟩
    | j + 1 => simp at hj) h
theorem rgs_of {ro : Nat → Prop} {w : World} {B : Nat} (hro : ∀ b, ro b → b < B) {l : List Rg} {v : Value} (h : RepD ro w (.list (rgRows l)) v) : Rgs w B v l :=
  sl_of_dl (row := rgRow) (fun _ => rfl) hro (fun b off x _ _ hj => by
    obtain ⟨u, h1, h2⟩ := hj 0 _ rfl
    obtain ⟨u', h3, h4⟩ := hj 1 _ rfl
    rw [iD_inv h2] at h1
    rw [iD_inv h4] at h3
    exact ⟨h1, h3⟩) h
theorem of_rgs {ro : Nat → Prop} {w : World} {B : Nat} (hro : ∀ b, b < B → ro b) {l : List Rg} {v : Value} (h : Rgs w B v l) : RepD ro w (.list (rgRows l)) v :=
  dl_of_sl (row := rgRow) (fun _ => rfl) (by simp [Dat.one]) hro (fun b off x _ _ hx j c hj => by
    match j with
    | 0 => simp at hj; subst hj; exact ⟨_, hx.1, .val _ rfl⟩
    | 1 => simp at hj; subst hj; exact ⟨_, hx.2, .val _ rfl⟩
    | j + 2 => simp at hj) h
theorem kinks_of {ro : Nat → Prop} {w : World} {B : Nat} (hro : ∀ b, ro b → b < B) {l : List Kink} {v : Value} (h : RepD ro w (.list (kinkRows l)) v) : Kinks w B v l :=
  sl_of_dl (row := fun k : Kink => [iD k.frm, iD k.lo, iD k.hi]) (fun _ => rfl) hro (fun b off x _ _ hj => by
    obtain ⟨u, h1, h2⟩ := hj 0 _ rfl
    obtain ⟨u', h3, h4⟩ := hj 1 _ rfl
    obtain ⟨u'', h5, h6⟩ := hj 2 _ rfl
    rw [iD_inv h2] at h1
    rw [iD_inv h4] at h3
    rw [iD_inv h6] at h5
    exact ⟨h1, h3, h5⟩) h
theorem of_kinks {ro : Nat → Prop} {w : World} {B : Nat} (hro : ∀ b, b < B → ro b) {l : List Kink} {v : Value} (h : Kinks w B v l) : RepD ro w (.list (kinkRows l)) v :=
  dl_of_sl (row := fun k : Kink => [iD k.frm, iD k.lo, iD k.hi]) (fun _ => rfl) (by simp [Dat.one]) hro (fun b off x _ _ hx j c hj => by
    match j with
    | 0 => simp at hj; subst hj; exact ⟨_, hx.1, .val _ rfl⟩
    | 1 => simp at hj; subst hj; exact ⟨_, hx.2.1, .val _ rfl⟩
    | 2 => simp at hj; subst hj; exact ⟨_, hx.2.2, .val _ rfl⟩
    | j + 3 => simp at hj) h
theorem ways_of {ro : Nat → Prop} {w : World} {B : Nat} (hro : ∀ b, ro b → b < B) {l : List (List Kink)} {v : Value} (h : RepD ro w (.list (wayRows l)) v) : WaysIn w B v l :=
  sl_of_dl (row := fun ks => [.list (kinkRows ks)]) (fun _ => rfl) hro (fun b off x _ _ hj => by
    obtain ⟨u, h1, h2⟩ := hj 0 _ rfl
    exact ⟨u, h1, kinks_of hro h2⟩) h
theorem of_ways {ro : Nat → Prop} {w : World} {B : Nat} (hro : ∀ b, b < B → ro b) {l : List (List Kink)} {v : Value} (h : WaysIn w B v l) : RepD ro w (.list (wayRows l)) v :=
  dl_of_sl (row := fun ks => [.list (kinkRows ks)]) (fun _ => rfl) (by simp [Dat.one]) hro (fun b off x _ _ hx j c hj => by
    obtain ⟨u, h1, h2⟩ := hx
    match j with
    | 0 => simp at hj; subst hj; exact ⟨_, h1, of_kinks hro h2⟩
    | j + 1 => simp at hj) h
theorem steps_of {ro : Nat → Prop} {w : World} {B : Nat} (hro : ∀ b, ro b → b < B) {l : List (List (List Kink))} {v : Value} (h : RepD ro w (.list (stepRows l)) v) : Steps w B v l :=
  sl_of_dl (row := fun ws => [.list (wayRows ws)]) (fun _ => rfl) hro (fun b off x _ _ hj => by
    obtain ⟨u, h1, h2⟩ := hj 0 _ rfl
    exact ⟨u, h1, ways_of hro h2⟩) h
theorem of_steps {ro : Nat → Prop} {w : World} {B : Nat} (hro : ∀ b, b < B → ro b) {l : List (List (List Kink))} {v : Value} (h : Steps w B v l) : RepD ro w (.list (stepRows l)) v :=
  dl_of_sl (row := fun ws => [.list (wayRows ws)]) (fun _ => rfl) (by simp [Dat.one]) hro (fun b off x _ _ hx j c hj => by
    obtain ⟨u, h1, h2⟩ := hx
    match j with
    | 0 => simp at hj; subst hj; exact ⟨_, h1, of_ways hro h2⟩
    | j + 1 => simp at hj) h
def listRows (l : List (List Int)) : List (List Dat) := l.map fun r => [intL r]
theorem of_lists {ro : Nat → Prop} {w : World} {B : Nat} (hro : ∀ b, b < B → ro b) {l : List (List Int)} {v : Value} (h : Lists w B v l) : RepD ro w (.list (listRows l)) v :=
  dl_of_sl (row := fun r => [intL r]) (fun _ => rfl) (by simp [Dat.one]) hro (fun b off x _ _ hx j c hj => by
    obtain ⟨u, h1, h2⟩ := hx
    match j with
    | 0 => simp at hj; subst hj; exact ⟨_, h1, of_ints hro h2⟩
    | j + 1 => simp at hj) h
theorem lists_of {ro : Nat → Prop} {w : World} {B : Nat} (hro : ∀ b, ro b → b < B) {l : List (List Int)} {v : Value} (h : RepD ro w (.list (listRows l)) v) : Lists w B v l :=
  sl_of_dl (row := fun r => [intL r]) (fun _ => rfl) hro (fun b off x _ _ hj => by
    obtain ⟨u, h1, h2⟩ := hj 0 _ rfl
    exact ⟨u, h1, ints_of hro h2⟩) h

/-- A works, and a recipe, as data: as values, and as they lie in memory. -/
theorem in_of {w : World} {x : Works} {v : Value} (h : RepD (· < w.heap.size) w (worksD x) v) : ∃ Ab cb As cs, v = .agg #[.slice Ab x.bars.length cb, .slice As x.steps.length cs] ∧ In w w.heap.size Ab As none cb cs 0 x [] := by
  obtain ⟨a, b, rfl, h1, h2⟩ := agg2_inv h
  obtain ⟨Ab, cb, rfl, b1, b2, b3⟩ := rgs_of (fun _ h => h) h1
  obtain ⟨As, cs, rfl, s1, s2, s3⟩ := steps_of (fun _ h => h) h2
  exact ⟨Ab, cb, As, cs, rfl, b3, s3, by simp [SLa], b1, b2, s1, s2, by simp, by simp, Nat.le_refl _⟩
theorem in_of2 {w : World} {x : Works} {bar : Int} {ways : List Int} {v r : Value} (h : RepD (· < w.heap.size) w (worksD x) v) (hr : RepD (· < w.heap.size) w (recD bar ways) r) :
    ∃ Ab cb As cs Ar cr, v = .agg #[.slice Ab x.bars.length cb, .slice As x.steps.length cs] ∧ r = .agg #[.int .i64 bar, .slice Ar ways.length cr] ∧ In w w.heap.size Ab As Ar cb cs cr x ways := by
  obtain ⟨Ab, cb, As, cs, rfl, h1⟩ := in_of h
  obtain ⟨a, b, rfl, h2, h3⟩ := agg2_inv hr
  rw [iD_inv h2]
  obtain ⟨Ar, cr, rfl, r1, r2, r3⟩ := ints_of (fun _ h => h) h3
  exact ⟨Ab, cb, As, cs, Ar, cr, rfl, rfl, h1.bars, h1.steps, r3, h1.cb1, h1.cb2, h1.cs1, h1.cs2, r1, r2, Nat.le_refl _⟩
theorem rg_of {ro : Nat → Prop} {w : World} {a b : Int} {v : Value} (h : RepD ro w (.agg [iD a, iD b]) v) : v = .agg #[.int .i64 a, .int .i64 b] := by
  obtain ⟨x, y, rfl, h1, h2⟩ := agg2_inv h
  rw [iD_inv h1, iD_inv h2]
theorem of_works {w : World} {B : Nat} {x : Works} {Ab As Ar : Option Addr} {cb cs cr : Nat} {ways : List Int} (h : In w B Ab As Ar cb cs cr x ways) : RepD (· < w.heap.size) w (worksD x) (.agg #[.slice Ab x.bars.length cb, .slice As x.steps.length cs]) := by
  have h1 : Rgs w B (.slice Ab x.bars.length cb) x.bars := ⟨_, _, rfl, h.cb1, h.cb2, h.bars⟩
  have h2 : Steps w B (.slice As x.steps.length cs) x.steps := ⟨_, _, rfl, h.cs1, h.cs2, h.steps⟩
  refine .agg _ _ rfl (by simp [Dat.one]) fun i c v hc hv => ?_
  match i with
  | 0 => simp at hc hv; subst hc; subst hv; exact of_rgs (fun b hb => Nat.lt_of_lt_of_le hb h.le) h1
  | 1 => simp at hc hv; subst hc; subst hv; exact of_steps (fun b hb => Nat.lt_of_lt_of_le hb h.le) h2
  | i + 2 => simp at hc
end Go.Proofs.Ytigpefjeelgfdaa.Eng

/-
  Walks of layer 1's statements: which works and ways are too great for a statement.
-/
namespace Go.Proofs.Ytigpefjeelgfdaa
open Go.RowKit

def longB (ks : List Kink) : Bool := decide (20 < ks.length)
def greatB (x : Works) : Bool := decide (10 < x.bars.length) || decide (10 < x.steps.length) || !(x.steps.all fun ws => !decide (8 < ws.length) && ws.all fun ks => !longB ks)

set_option maxHeartbeats 400000 in
theorem long_any (A : Option Addr) (c : Nat) (ks : List Kink) (w : World) (h1 : ks.length ≤ c) (h2 : c ≤ 9223372036854775807) :
    Calls Try.prog 15 #[.agg #[.slice A ks.length c]] w fun e w' => e = .returned (.bool (longB ks)) ∧ Below w.heap.size w w' := by
  by_cases g : 20 < ks.length
  · have R : Hid (longB ks = true) := Lib.hid (by simp [longB, g])
    have g2 : (20 : Int) < (ks.length : Int) := by omega
    go_enter Try.func15, Try.ntmps15
    go_wp2
    go_ret
    exact ⟨ret_bool (by rw [R.out]), bel⟩
  · have R : Hid (longB ks = false) := Lib.hid (by simp [longB, g])
    have g2 : ¬ (20 : Int) < (ks.length : Int) := by omega
    go_enter Try.func15, Try.ntmps15
    go_wp2
    go_ret
    exact ⟨ret_bool (by rw [R.out]), bel⟩

/-- Parts of it. -/
theorem greatB_all {x : Works} (h1 : ¬ 10 < x.bars.length) (h2 : ¬ 10 < x.steps.length) (h3 : (x.steps.all fun ws => !decide (8 < ws.length) && ws.all fun ks => !longB ks) = true) : Hid (greatB x = false) := Lib.hid (by simp only [greatB, h1, h2, h3]; rfl)
theorem greatB_some {x : Works} (h3 : (x.steps.all fun ws => !decide (8 < ws.length) && ws.all fun ks => !longB ks) = false) : Hid (greatB x = true) := Lib.hid (by simp only [greatB, h3]; simp)

set_option maxRecDepth 100000 in
set_option maxHeartbeats 4000000 in
theorem great_any (Ab As : Option Addr) (cb cs : Nat) (x : Works) (B : Nat) (w : World) (hbs : RgsA w B Ab x.bars) (hs : StepsA w B As x.steps) (hc : x.steps.length ≤ cs) (hm : cs ≤ 9223372036854775807) (hcb : x.bars.length ≤ cb) (hmb : cb ≤ 9223372036854775807) (hB : B ≤ w.heap.size) :
    Calls Try.prog 14 #[.agg #[.slice Ab x.bars.length cb, .slice As x.steps.length cs]] w fun e w' => e = .returned (.bool (greatB x)) ∧ Below w.heap.size w w' := by
  by_cases q1 : 10 < x.bars.length
  · have R : Hid (greatB x = true) := Lib.hid (by simp [greatB, q1])
    go_enter Try.func14, Try.ntmps14
    go_wp2_with fail
    go_ret
    exact ⟨ret_bool R.out.symm, bel⟩
  by_cases q2 : 10 < x.steps.length
  · have R : Hid (greatB x = true) := Lib.hid (by simp [greatB, q2])
    go_enter Try.func14, Try.ntmps14
    go_wp2_with fail
    go_ret
    exact ⟨ret_bool R.out.symm, bel⟩
  go_enter Try.func14, Try.ntmps14
  go_wp2_with fail
  go_loopw [3] (fun i wr => ∃ (k : Nat), k ≤ x.steps.length ∧ i = .int .i64 k ∧ Upto (fun ws => !decide (8 < ws.length) && ws.all fun ks => !longB ks) x.steps k ∧ Below w.heap.size w wr ∧ Box wr w.heap.size 25 #[.slice Ab x.bars.length cb, .slice As x.steps.length cs])
    (fun i _ => x.steps.length - (intOf i).toNat)
  case atStart =>
    refine ⟨0, by omega, rfl, Upto.zero _ _, bel, ?_⟩
    exact bxt
  case round =>
    obtain ⟨k, hk, rfl, hup, hbl, bw⟩ := hrel
    obtain ⟨u1, u2, u3, u4⟩ := bw.two
    have hz := bw.lt
    by_cases hlt : k < x.steps.length
    · obtain ⟨b, off, A', c', ws, rfl, hb, hx, d0, l1, l2, hws⟩ := stepsA hs hlt
      have d1 := (hbl.cell (p := ⟨b, off + k, none⟩) (by simp only []; omega)).trans d0
      have hbr : b < wr.heap.size := by omega
      by_cases p1 : 8 < ws.length
      · have R : Hid (greatB x = true) := greatB_some (Upto.fail hx (by simp [p1]))
        clear d0
        go_wp2_with fail
        go_ret
        exact ⟨ret_bool R.out.symm, bel⟩
      go_wp2_with fail
      obtain ⟨wp, rfl⟩ : ∃ wp : World, wp = wr := ⟨_, rfl⟩
      go_loopw [4] (fun i wr => ∃ (m : Nat), m ≤ ws.length ∧ i = .int .i64 m ∧ Upto (fun ks => !longB ks) ws m ∧ Below w.heap.size w wr ∧ Box wr w.heap.size 25 #[.slice Ab x.bars.length cb, .slice (some ⟨b, off, none⟩) x.steps.length cs])
        (fun i _ => ws.length - (intOf i).toNat)
      case atStart =>
        refine ⟨0, by omega, rfl, Upto.zero _ _, bel, ?_⟩
        exact bxt
      case round =>
        obtain ⟨m, hm', rfl, hup2, hbl2, bw2⟩ := hrel
        obtain ⟨u1, u2, u3, u4⟩ := bw2.two
        have hz2 := bw2.lt
        have d1 := (hbl2.cell (p := ⟨b, off + k, none⟩) (by simp only []; omega)).trans d0
        have hbr : b < wr.heap.size := by omega
        by_cases hlt2 : m < ws.length
        · obtain ⟨b2, off2, A2, c2, ks, rfl, hb2, hx2, e0, l3, l4, hks⟩ := waysA hws hlt2
          have e1 := (hbl2.cell (p := ⟨b2, off2 + m, none⟩) (by simp only []; omega)).trans e0
          have hbr2 : b2 < wr.heap.size := by omega
          cases g : longB ks
          · have G := Lib.hid g
            clear g
            go_wp2_with (go_at_call 15; refine (long_any _ _ ks _ l3 l4).mono ?_; rintro e w2 ⟨rfl, hb2⟩; rw [G.out]; obtain ⟨_hr1, _hr2⟩ := below_reads hb2; have _hz := Below.size hb2; (try simp only [World.size_alloc, World.size_setCell, World.size_drew, World.heap_drewN] at _hz))
            go_roundw
            case rel =>
              refine ⟨m + 1, by omega, by go_num, hup2.succ hx2 (by simp [G.out]), bel, ?_⟩
              exact bxt
            case measure => simp [intOf]; omega
          · have R : Hid (greatB x = true) := greatB_some (Upto.fail hx (by rw [Bool.and_eq_false_iff]; right; exact Upto.fail hx2 (by rw [g]; rfl)))
            have G := Lib.hid g
            clear g
            go_wp2_with (go_at_call 15; refine (long_any _ _ ks _ l3 l4).mono ?_; rintro e w2 ⟨rfl, hb2⟩; rw [G.out]; obtain ⟨_hr1, _hr2⟩ := below_reads hb2; have _hz := Below.size hb2; (try simp only [World.size_alloc, World.size_setCell, World.size_drew, World.heap_drewN] at _hz))
            go_ret
            exact ⟨ret_bool R.out.symm, bel⟩
        · have ok : (!decide (8 < ws.length) && ws.all fun ks => !longB ks) = true := by
            rw [hup2.done (by omega)]
            simp [p1]
          have OK := Lib.hid ok
          clear ok hup2
          go_wp2_with fail
          go_roundw
          case rel =>
            refine ⟨k + 1, by omega, by go_num, hup.succ hx OK.out, bel, ?_⟩
            exact bxt
          case measure => simp [intOf]; omega
    · have R : Hid (greatB x = false) := greatB_all q1 q2 (hup.done (by omega))
      clear hup
      go_wp2_with fail
      go_ret
      exact ⟨ret_bool R.out.symm, bel⟩
end Go.Proofs.Ytigpefjeelgfdaa

/-
  Walks of layer 1's statements: which works a statement speaks of.
-/
namespace Go.Proofs.Ytigpefjeelgfdaa
open Go.RowKit

def fineB (x : Works) : Bool := !greatB x && decide (worksErr x = 0)
theorem fineB_works {x : Works} (h : fineB x = true) : worksErr x = 0 := by
  simp only [fineB, Bool.and_eq_true, decide_eq_true_eq] at h
  exact h.2

set_option maxHeartbeats 1000000 in
theorem fine_any (Ab As : Option Addr) (cb cs : Nat) (x : Works) (B : Nat) (w : World) (h : In w B Ab As none cb cs 0 x []) :
    Calls Try.prog 43 #[.agg #[.slice Ab x.bars.length cb, .slice As x.steps.length cs]] w fun e w' => e = .returned (.bool (fineB x)) ∧ Below w.heap.size w w' := by
  have hB := h.le
  have hgr : ∀ W : World, Below w.heap.size w W → Calls Try.prog 14 #[.agg #[.slice Ab x.bars.length cb, .slice As x.steps.length cs]] W fun e w' => e = .returned (.bool (greatB x)) ∧ Below W.heap.size W w' :=
    fun W hW => great_any Ab As cb cs x B W (rgs_on h.bars hW hB) (steps_on h.steps hW hB) h.cs1 h.cs2 h.cb1 h.cb2 (Nat.le_trans hB hW.size)
  have HG := Lib.hid hgr
  have hre : ∀ W : World, Below w.heap.size w W → Calls Try.prog 22 #[.agg #[.slice Ab x.bars.length cb, .slice As x.steps.length cs]] W fun e w' => e = .returned (.int .i64 (worksErr x)) ∧ Below W.heap.size W w' :=
    fun W hW => refCheckWorks_any Ab As cb cs x B W (rgs_on h.bars hW hB) (steps_on h.steps hW hB) h.cs1 h.cs2 h.cb1 h.cb2 (Nat.le_trans hB hW.size)
  have HRE := Lib.hid hre
  clear hgr hre
  cases g : greatB x
  · by_cases g2 : worksErr x = 0
    · have R : Hid (fineB x = true) := Lib.hid (by simp [fineB, g, g2])
      have G := Lib.hid g
      have G2 := Lib.hid g2
      clear g g2
      go_enter Try.func43, Try.ntmps43
      go_wp2_with (first
        | (go_at_call 14; refine (HG.out _ bel).mono ?_; rintro e w1 ⟨rfl, hb1⟩; rw [G.out]; obtain ⟨_hr1, _hr2⟩ := below_reads hb1; have _hz := Below.size hb1; (try simp only [World.size_alloc, World.size_setCell, World.size_drew, World.heap_drewN] at _hz); obtain ⟨_hr3, _hr4⟩ := below_reads (show Below w.heap.size w w1 from bel); have _q0 : w.heap.size < w1.heap.size := (by omega))
        | (go_at_call 22; refine (HRE.out _ bel).mono ?_; rintro e w2 ⟨rfl, hb2⟩; rw [G2.out]; obtain ⟨_hr1, _hr2⟩ := below_reads hb2; have _hz := Below.size hb2; (try simp only [World.size_alloc, World.size_setCell, World.size_drew, World.heap_drewN] at _hz); obtain ⟨_hr3, _hr4⟩ := below_reads (show Below w.heap.size w w2 from bel); have _q0 : w.heap.size < w2.heap.size := (by omega)))
      go_ret
      exact ⟨ret_bool R.out.symm, bel⟩
    · have R : Hid (fineB x = false) := Lib.hid (by simp [fineB, g, g2])
      have g3 : (worksErr x == 0) = false := by simpa using g2
      have G := Lib.hid g
      clear g g2
      go_enter Try.func43, Try.ntmps43
      go_wp2_with (first
        | (go_at_call 14; refine (HG.out _ bel).mono ?_; rintro e w1 ⟨rfl, hb1⟩; rw [G.out]; obtain ⟨_hr1, _hr2⟩ := below_reads hb1; have _hz := Below.size hb1; (try simp only [World.size_alloc, World.size_setCell, World.size_drew, World.heap_drewN] at _hz); obtain ⟨_hr3, _hr4⟩ := below_reads (show Below w.heap.size w w1 from bel); have _q0 : w.heap.size < w1.heap.size := (by omega))
        | (go_at_call 22; refine (HRE.out _ bel).mono ?_; rintro e w2 ⟨rfl, hb2⟩; obtain ⟨_hr1, _hr2⟩ := below_reads hb2; have _hz := Below.size hb2; (try simp only [World.size_alloc, World.size_setCell, World.size_drew, World.heap_drewN] at _hz); obtain ⟨_hr3, _hr4⟩ := below_reads (show Below w.heap.size w w2 from bel); have _q0 : w.heap.size < w2.heap.size := (by omega)))
      go_ret
      exact ⟨ret_bool (by rw [R.out]), bel⟩
  · have R : Hid (fineB x = false) := Lib.hid (by simp [fineB, g])
    have G := Lib.hid g
    clear g
    go_enter Try.func43, Try.ntmps43
    go_wp2_with (first
      | (go_at_call 14; refine (HG.out _ bel).mono ?_; rintro e w1 ⟨rfl, hb1⟩; rw [G.out]; obtain ⟨_hr1, _hr2⟩ := below_reads hb1; have _hz := Below.size hb1; (try simp only [World.size_alloc, World.size_setCell, World.size_drew, World.heap_drewN] at _hz); obtain ⟨_hr3, _hr4⟩ := below_reads (show Below w.heap.size w w1 from bel); have _q0 : w.heap.size < w1.heap.size := (by omega)))
    go_ret
    exact ⟨ret_bool R.out.symm, bel⟩
end Go.Proofs.Ytigpefjeelgfdaa

/-
  Walks of layer 1's statements: a recipe, by numbers.
-/
namespace Go.Proofs.Ytigpefjeelgfdaa
open Go.RowKit

/-- Numbers of a kind in memory, each of which fits it. -/
def IntW (k : IntKind) (w : World) (b off : Nat) (n : Int) : Prop := w.cell? ⟨b, off, none⟩ = some (.int k n) ∧ (Lit.int k n).wf = true
abbrev IntsW (k : IntKind) (w : World) (B : Nat) (A : Option Addr) (l : List Int) : Prop := SLa (IntW k) 1 w B A l
theorem intsW_on {k : IntKind} {w w' : World} {B n : Nat} {A : Option Addr} {l : List Int} (h : IntsW k w B A l) (hb : Below n w w') (hB : B ≤ n) : IntsW k w' B A l :=
  SLa.keep h (Nat.le_refl _) fun _ _ _ hlt hx => ⟨((Same.of_below (hb.mono hB)).cell hlt _).trans hx.1, hx.2⟩
theorem intsW {k : IntKind} {w : World} {B : Nat} {A : Option Addr} {l : List Int} (h : IntsW k w B A l) {i : Nat} (hi : i < l.length) :
    ∃ b off x, A = some ⟨b, off, none⟩ ∧ b < B ∧ w.cell? ⟨b, off + i, none⟩ = some (.int k x) ∧ (Lit.int k x).wf = true := by
  obtain ⟨b, off, x, h1, h2, h3, h4, h5⟩ := SLa.at_ h hi
  exact ⟨b, off, x, h1, h2, by simpa using h4, h5⟩
theorem u8_bounds {n : Int} (h : (Lit.int .u8 n).wf = true) : 0 ≤ n ∧ n ≤ 255 := by
  simp only [Lit.wf, Bool.and_eq_true, decide_eq_true_eq] at h
  have e1 : IntKind.u8.min = 0 := by decide
  have e2 : IntKind.u8.max = 255 := by decide
  omega

/-- A recipe in the making: its bar and its first ways. -/
structure Making (x : Works) (k : Nat) (bar : Int) (ways : List Int) : Prop where
  len : ways.length = k - 1
  bar0 : 0 < k → 0 ≤ bar
  bar1 : 0 < k → bar < x.bars.length
  ways : ∀ i, i < ways.length → wayIn x.steps ways i = true
theorem Making.zero (x : Works) : Making x 0 0 [] := ⟨rfl, fun h => absurd h (by omega), fun h => absurd h (by omega), fun i h => absurd h (by simp)⟩
theorem Making.bar {x : Works} {b : Int} {ways : List Int} (h : Making x 0 b ways) {c : Int} (h0 : 0 ≤ c) (h1 : c < x.bars.length) : Making x 1 c ways :=
  ⟨by have := h.len; omega, fun _ => h0, fun _ => h1, h.ways⟩
theorem wayIn_app {steps : List (List (List Kink))} {ways : List Int} {n : Int} {i : Nat} (hi : i < ways.length) : wayIn steps (ways ++ [n]) i = wayIn steps ways i := by
  have : intAt (ways ++ [n]) i = intAt ways i := by
    unfold intAt
    rw [List.getD_eq_getElem?_getD, List.getD_eq_getElem?_getD, List.getElem?_append_left hi]
  simp only [wayIn, this]
theorem Making.way {x : Works} {s : Nat} {b : Int} {ways : List Int} (h : Making x (s + 1) b ways) {n : Int} {ws : List (List Kink)} (hx : Hid (x.steps[s]? = some ws)) (h0 : 0 ≤ n) (h1 : n < ws.length) : Making x (s + 2) b (ways ++ [n]) := by
  have hl := h.len
  refine ⟨by simp; omega, fun _ => h.bar0 (by omega), fun _ => h.bar1 (by omega), fun i hi => ?_⟩
  simp at hi
  rcases Nat.lt_or_ge i ways.length with g | g
  · rw [wayIn_app g]; exact h.ways i g
  · obtain rfl : i = s := by omega
    have e : intAt (ways ++ [n]) i = n := by
      unfold intAt
      rw [List.getD_eq_getElem?_getD, List.getElem?_append_right g, show i - ways.length = 0 by omega]
      rfl
    have e2 : stepAt x.steps i = ws := by simp [stepAt, List.getD_eq_getElem?_getD, hx.out]
    simp only [wayIn, e, e2, decide_eq_true_eq]
    exact ⟨h0, h1⟩
theorem Making.done {x : Works} {b : Int} {ways : List Int} (h : Making x (x.steps.length + 1) b ways) (hw : worksErr x = 0) : RecOk x b ways :=
  ⟨hw, by have := h.len; omega, h.bar0 (by omega), h.bar1 (by omega), h.ways⟩
theorem intVals_app (l : List Int) (n : Int) : intVals (l ++ [n]) = intVals l ++ [.int .i64 n] := by simp [intVals]
theorem intVals_len (l : List Int) : (intVals l).length = l.length := by simp [intVals]

/-- append to a list of the call's own, as one step of a region that draws its order. -/
theorem step_append_mine {P : Program} {ops : Array Oper} {o : Oper} {a : Act} {w : World} {K : Act → World → Prop} {Q : Exit → Act → World → Prop} {E : Prop}
    (hg : o.guard = none) (s x : Operand) (t : TypeId) (ho : o.op = Op.call { callee := Callee.builtin Builtin.append, args := #[s, x], argTypes := #[t, t] })
    (base : Nat) (e : TypeId) (i : TypeInfo) (z : Value) (size bytes : Nat) (ht : P.underlying t = some (.slice e)) (hi : P.info? e = some i) (hz : i.zero = some z)
    (hsize : i.size = size) (hby : i.bytes = bytes) (hzs : z.cells.size = size) (hsz : 0 < size)
    (v : Value) (n : Nat) (xs : List Value) (hs : a.eval s = v) (hown : w.ownsRow base e size v n xs)
    (ad : Addr) (m c : Nat) (news : List Value) (hx : a.eval x = .slice (some ad) m c) (hl : news.length = m * size) (hnews : ∀ j u, news[j]? = some u → w.cell? (ad.add j) = some u) (h1 : ∀ u ∈ news, u.oneCell' = true)
    (h63 : n + m ≤ maxLen) (hbytes : (n + m) * bytes ≤ 140737488355328) (hbase : base ≤ w.heap.size)
    (h : ∀ v' w', w'.ownsRow base e size v' (n + m) (xs ++ news) → w.grownBy w' v.ownBlock → K (a.put o.dst v') w') :
    if Region.wanted o (yielded ops a.tmps) = true then Oper.wp P o a w K Q else E := by
  rw [if_pos (by simp [Region.wanted, hg])]
  exact wp_append_own w s x t ho base e i z size bytes ht hi hz hsize hby hzs hsz v n xs hs hown ad m c news hx hl hnews h1 h63 hbytes hbase fun v' w' h2 h3 _ => h v' w' h2 h3
theorem cells_one_new (w : World) (t : TypeId) (a : Value) (g : Nat) (h : g = w.heap.size) : ∀ j u, [a][j]? = some u → (w.alloc (.cells #[a] t)).cell? ((⟨g, 0, none⟩ : Addr).add j) = some u := by
  subst h
  intro j u hu
  have hb : Box (w.alloc (.cells #[a] t)) w.heap.size t #[a] := Box.new' rfl
  rw [Addr.add_lit, hb.cell]
  simpa using hu

def RetRec (x : Works) (w : World) (e : Ending) (w' : World) : Prop :=
  ∃ (bar : Int) (A : Option Addr) (c : Nat) (ways : List Int), e = .returned (.agg #[.int .i64 bar, .slice A ways.length c]) ∧ RecOk x bar ways ∧ IntsA .i64 w' w'.heap.size A ways ∧ ways.length ≤ c ∧ c ≤ 9223372036854775807 ∧ Below w.heap.size w w'

set_option maxRecDepth 100000 in
set_option maxHeartbeats 4000000 in
theorem one_ok (Ab As Ay : Option Addr) (cb cs cy : Nat) (x : Works) (by_ : List Int) (B : Nat) (w : World) (h : In w B Ab As none cb cs 0 x []) (hy : IntsW .u8 w B Ay by_) (hy1 : by_.length ≤ cy) (hy2 : cy ≤ 9223372036854775807) (hw : worksErr x = 0) :
    Calls Try.prog 44 #[.agg #[.slice Ab x.bars.length cb, .slice As x.steps.length cs], .slice Ay by_.length cy] w (RetRec x w) := by
  have hB := h.le
  have hs6 := steps_few hw
  have hbn : 0 < x.bars.length ∧ x.bars.length ≤ 6 := by
    have h1 := (worksOk_iff.1 hw).1
    simp only [manyOk, Bool.and_eq_true, Bool.not_eq_true', decide_eq_false_iff_not] at h1
    omega
  have hsw : ∀ ws ∈ x.steps, 0 < ws.length ∧ ws.length ≤ 5 := by
    intro ws hws
    have h1 := (worksOk_iff.1 hw).1
    simp only [manyOk, Bool.and_eq_true, List.all_eq_true] at h1
    have h2 := h1.2 ws hws
    simp only [waysMany, Bool.not_eq_true', decide_eq_false_iff_not] at h2
    omega
  have HSW := Lib.hid hsw
  clear hsw
  have HW := Lib.hid hw
  obtain ⟨i0, hi', hy0, hy1', hy2'⟩ := info_parts infoInt
  clear hw
  generalize hny : by_.length = ny at *
  have NY := Lib.hid hny
  clear hny
  go_enter Try.func44, Try.ntmps44
  go_wp2_with fail
  go_loopw [6] (fun i wr => ∃ (k : Nat) (bar : Int) (vw : Value) (ways : List Int), k ≤ x.steps.length + 1 ∧ i = .int .i64 k ∧ Hid (Making x k bar ways) ∧ Below w.heap.size w wr ∧ Hid (wr.ownsRow (w.heap.size + 3) 3 1 vw ways.length (intVals ways)) ∧
      Box wr w.heap.size 25 #[.slice Ab x.bars.length cb, .slice As x.steps.length cs] ∧ Box wr (w.heap.size + 1) 42 #[.int .i64 0, .slice none 0 0] ∧ Box wr (w.heap.size + 2) 42 #[.int .i64 bar, vw])
    (fun i _ => x.steps.length + 1 - (intOf i).toNat)
  case atStart =>
    refine ⟨0, 0, .slice none 0 0, [], by omega, rfl, Lib.hid (Making.zero x), bel, Lib.hid (World.ownsRow_nil _ _ _ _), ?_, ?_, ?_⟩
    all_goals exact bxt
  case round =>
    obtain ⟨k, bar, vw, ways, hk, rfl, hmk, hbl, hov, bw, br, bo⟩ := hrel
    obtain ⟨Aw, cw, rfl⟩ := own_slice hov.out
    obtain ⟨u5, u6, u7, u8⟩ := bw.two
    obtain ⟨t5, t6, t7, t8⟩ := bo.two
    have hz1 := bw.lt
    have hz3 := bo.lt
    obtain ⟨c1, c2, -, -⟩ := br.two
    obtain ⟨-, -, c3, c4⟩ := br.two
    have hz2 := br.lt
    by_cases hlt : k ≤ x.steps.length
    · obtain ⟨vv, hvv⟩ : ∃ vv : Int, vv = 0 := ⟨0, rfl⟩
      rcases k with _ | s
      · by_cases hn : 0 < ny
        · obtain ⟨b, off, vv, e, hb, d0, hwf⟩ := intsW (intsW_on hy hbl hB) (i := 0) (by rw [NY.out]; exact hn)
          subst e
          have hvb := u8_bounds hwf
          have hbr : b < wr.heap.size := by omega
          have r3 : (0 : Int) < (ny : Int) := by omega
          have r4 : (0 : Int) < (x.bars.length : Int) := by omega
          have r5 : (0 : Int) ≤ vv % (x.bars.length : Int) := Int.emod_nonneg _ (by omega)
          have r6 : vv % (x.bars.length : Int) < (x.bars.length : Int) := Int.emod_lt_of_pos _ (by omega)
          simp only [Nat.add_zero] at d0
          go_wp2_with fail
          go_roundw
          case rel =>
            refine ⟨1, _, .slice Aw ways.length cw, ways, by omega, rfl, Lib.hid (hmk.out.bar r5 r6), bel, Lib.hid (own_far hov.out (by simp only []; omega) _), ?_, ?_, ?_⟩
            all_goals exact bxt
          case measure => simp [intOf]
        · have r3 : (0 : Int) < (x.bars.length : Int) := by omega
          have hn2 : ¬ (0 : Int) < (ny : Int) := by omega
          go_wp2_with fail
          go_roundw
          case rel =>
            refine ⟨1, _, .slice Aw ways.length cw, ways, by omega, rfl, Lib.hid (hmk.out.bar (c := 0) (by omega) r3), bel, Lib.hid (own_far hov.out (by simp only []; omega) _), ?_, ?_, ?_⟩
            all_goals exact bxt
          case measure => simp [intOf]
      · obtain ⟨b1, o1, A1, c1', ws, rfl, hb1', hws, f1, l1, l2, hwsA⟩ := stepsA (steps_on h.steps hbl hB) (i := s) (by omega)
        have hwl := HSW.out ws (List.mem_of_getElem? hws.out)
        have v1 : b1 < wr.heap.size := by omega
        have s7 : (s : Int) < (x.steps.length : Int) := by omega
        have s8 : IntKind.i64.wrap (s : Int) = (s : Int) := IntWalk.i64_in _ (by omega)
        have s9 : (0 : Int) < (ws.length : Int) := by omega
        have s10 : ¬ ws = [] := by intro e; rw [e] at hwl; simp at hwl
        have hlen : Hid (ways.length = s) := Lib.hid (by have := hmk.out.len; omega)
        by_cases hn : 0 < ny
        · obtain ⟨b, off, vv, e, hb, d0, hwf⟩ := intsW (intsW_on hy hbl hB) (i := (s + 1) % ny) (by rw [NY.out]; exact Nat.mod_lt _ hn)
          subst e
          have hvb := u8_bounds hwf
          have hbr : b < wr.heap.size := by omega
          have r0 : (0 : Int) ≤ ((s : Int) + 1) % (ny : Int) := Int.emod_nonneg _ (by omega)
          have r1 : ((s : Int) + 1) % (ny : Int) < (ny : Int) := Int.emod_lt_of_pos _ (by omega)
          have r2 : (((s : Int) + 1) % (ny : Int)).toNat = (s + 1) % ny := by rw [show (s : Int) + 1 = ((s + 1 : Nat) : Int) from rfl, ← Int.natCast_emod, Int.toNat_natCast]
          have r3 : (0 : Int) < (ny : Int) := by omega
          have r5 : (0 : Int) ≤ vv % (ws.length : Int) := Int.emod_nonneg _ (by omega)
          have r6 : vv % (ws.length : Int) < (ws.length : Int) := Int.emod_lt_of_pos _ (by omega)
          have r7 : vv.tmod (ws.length : Int) = vv % (ws.length : Int) := Int.tmod_eq_emod_of_nonneg (by omega)
          have HM := Lib.hid (hmk.out.way hws r5 r6)
          go_wp2_with fail
          go_region_law (refine step_append_mine rfl (.tmp 35) (.tmp 46) 40 rfl (w.heap.size + 3) 3 i0 _ 1 8 Try.underlying40 hi' hy0 hy1' hy2' rfl (by decide) (.slice Aw ways.length cw) ways.length (intVals ways) (by simp [Act.eval, Act.put]) (own_later hov.out bel) ⟨wr.heap.size, 0, none⟩ 1 1 [.int .i64 (vv % (ws.length : Int))] (by simp [Act.eval, Act.put]) rfl (cells_one_new _ _ _ _ (by simp)) (by simp [Value.oneCell']) (by have := hlen.out; simp [maxLen]; omega) (by have := hlen.out; omega) (by simp; omega) ?_; intro v' w' hown hgrow; obtain ⟨Av, cv, rfl⟩ := own_slice hown; have HO := Lib.hid hown; have HGr := Lib.hid hgrow; have q3 := box_keep_gb (g := w.heap.size + 2) (t := 42) (cs := #[.int .i64 bar, .slice Aw ways.length cw]) (by exact bxt) (own_later hov.out bel) hgrow (by omega); obtain ⟨j1, j2, j3, j4⟩ := q3.two; clear hown hgrow)
          all_goals
            have p1 : Box w' w.heap.size 25 #[.slice Ab x.bars.length cb, .slice (some ⟨b1, o1, none⟩) x.steps.length cs] := box_keep_gb (by exact bxt) (own_later hov.out bel) HGr.out (by omega)
            have p2 : Box w' (w.heap.size + 1) 42 #[.int .i64 0, .slice none 0 0] := box_keep_gb (by exact bxt) (own_later hov.out bel) HGr.out (by omega)
            have p4 : Below w.heap.size w w' := below_gb bel (own_later hov.out bel) HGr.out (by omega)
            go_wp2_with fail
            go_roundw
            case rel =>
              refine ⟨s + 2, bar, .slice Av (ways.length + 1) cv, ways ++ [vv % (ws.length : Int)], by omega, by go_num, HM, bel, Lib.hid ?_, ?_, ?_, ?_⟩
              · rw [List.length_append, intVals_app]
                exact own_far HO.out (by simp only []; omega) _
              all_goals exact bxt
            case measure => simp [intOf]; omega
        · have hn2 : ¬ (0 : Int) < (ny : Int) := by omega
          have HM := Lib.hid (hmk.out.way (n := 0) hws (by omega) s9)
          go_wp2_with fail
          go_region_law (refine step_append_mine rfl (.tmp 35) (.tmp 46) 40 rfl (w.heap.size + 3) 3 i0 _ 1 8 Try.underlying40 hi' hy0 hy1' hy2' rfl (by decide) (.slice Aw ways.length cw) ways.length (intVals ways) (by simp [Act.eval, Act.put]) (own_later hov.out bel) ⟨wr.heap.size, 0, none⟩ 1 1 [.int .i64 0] (by simp [Act.eval, Act.put]) rfl (cells_one_new _ _ _ _ (by simp)) (by simp [Value.oneCell']) (by have := hlen.out; simp [maxLen]; omega) (by have := hlen.out; omega) (by simp; omega) ?_; intro v' w' hown hgrow; obtain ⟨Av, cv, rfl⟩ := own_slice hown; have HO := Lib.hid hown; have HGr := Lib.hid hgrow; have q3 := box_keep_gb (g := w.heap.size + 2) (t := 42) (cs := #[.int .i64 bar, .slice Aw ways.length cw]) (by exact bxt) (own_later hov.out bel) hgrow (by omega); obtain ⟨j1, j2, j3, j4⟩ := q3.two; clear hown hgrow)
          all_goals
            have p1 : Box w' w.heap.size 25 #[.slice Ab x.bars.length cb, .slice (some ⟨b1, o1, none⟩) x.steps.length cs] := box_keep_gb (by exact bxt) (own_later hov.out bel) HGr.out (by omega)
            have p2 : Box w' (w.heap.size + 1) 42 #[.int .i64 0, .slice none 0 0] := box_keep_gb (by exact bxt) (own_later hov.out bel) HGr.out (by omega)
            have p4 : Below w.heap.size w w' := below_gb bel (own_later hov.out bel) HGr.out (by omega)
            go_wp2_with fail
            go_roundw
            case rel =>
              refine ⟨s + 2, bar, .slice Av (ways.length + 1) cv, ways ++ [0], by omega, by go_num, HM, bel, Lib.hid ?_, ?_, ?_, ?_⟩
              · rw [List.length_append, intVals_app]
                exact own_far HO.out (by simp only []; omega) _
              all_goals exact bxt
            case measure => simp [intOf]; omega
    · obtain rfl : k = x.steps.length + 1 := by omega
      go_wp2_with fail
      refine bodyPost_ret (v := .agg #[.int .i64 bar, .slice Aw ways.length cw]) (by simp [results, Try.results44, go_sem, *]) rfl ?_
      obtain ⟨A, c, e, g1, g2, g3⟩ := own_ints (own_far (own_far hov.out (p := ⟨w.heap.size + 1, 0, none⟩) (by simp only []; omega) (.int .i64 bar)) (p := ⟨w.heap.size + 1, 1, none⟩) (by simp only []; omega) (.slice Aw ways.length cw))
      injection e with e1 e2 e3
      subst e1
      subst e3
      exact ⟨bar, _, _, ways, rfl, hmk.out.done HW.out, g3, g1, g2, bel⟩
end Go.Proofs.Ytigpefjeelgfdaa
