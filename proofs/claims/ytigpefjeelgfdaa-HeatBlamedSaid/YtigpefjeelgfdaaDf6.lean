/-
  A part of the texts that the claim builds on: see the last one.
-/
import Derived.Test.YtigpefjeelgfdaaDf5
set_option linter.unusedSimpArgs false
set_option linter.unusedVariables false
/-
  Walks of layer 1's statements: a history, by numbers.
-/
namespace Go.Proofs.Ytigpefjeelgfdaa
open Go.RowKit

theorem u32_bounds {n : Int} (h : (Lit.int .u32 n).wf = true) : 0 ≤ n ∧ n ≤ 4294967295 := by
  simp only [Lit.wf, Bool.and_eq_true, decide_eq_true_eq] at h
  have e1 : IntKind.u32.min = 0 := by decide
  have e2 : IntKind.u32.max = 4294967295 := by decide
  omega
/-- A history in the making: k hardnesses, each in its window. -/
structure Living (x : Works) (bar : Int) (ways : List Int) (k : Nat) (hist : List Int) : Prop where
  len : hist.length = k
  ok : ∀ i, i < k → histOk x bar ways hist i = true
theorem intAt_app {l : List Int} {n : Int} {i : Nat} (hi : i < l.length) : intAt (l ++ [n]) i = intAt l i := by
  unfold intAt
  rw [List.getD_eq_getElem?_getD, List.getD_eq_getElem?_getD, List.getElem?_append_left hi]
theorem intAt_end {l : List Int} {n : Int} {i : Nat} (hi : i = l.length) : intAt (l ++ [n]) i = n := by
  subst hi
  unfold intAt
  rw [List.getD_eq_getElem?_getD, List.getElem?_append_right (Nat.le_refl _), Nat.sub_self]
  rfl
theorem within_app {x : Works} {bar : Int} {ways l : List Int} {n : Int} {i : Nat} (hi : i ≤ l.length) : within x bar ways (l ++ [n]) i = within x bar ways l i := by
  rcases i with _ | i
  · rfl
  · show aft (wayOf x ways i) (intAt (l ++ [n]) i) = aft (wayOf x ways i) (intAt l i)
    rw [intAt_app (by omega)]
theorem Living.add {x : Works} {bar : Int} {ways : List Int} {k : Nat} {hist : List Int} (h : Living x bar ways k hist) {n : Int} (hn : (within x bar ways hist k).1 ≤ n ∧ n ≤ (within x bar ways hist k).2) : Living x bar ways (k + 1) (hist ++ [n]) := by
  have hl := h.len
  refine ⟨by simp [hl], fun i hi => ?_⟩
  unfold histOk
  rw [within_app (by omega)]
  rcases Nat.lt_or_ge i k with g | g
  · rw [intAt_app (by omega)]; exact h.ok i g
  · obtain rfl : i = k := by omega
    rw [intAt_end (by omega)]
    simp only [inB, decide_eq_true_eq]
    exact hn
theorem Living.done {x : Works} {bar : Int} {ways : List Int} {hist : List Int} (h : Living x bar ways (x.steps.length + 1) hist) (ok : RecOk x bar ways) : histErr x bar ways hist = 0 :=
  histErr_ok (recOk_iff.2 ok) h.len (allN_iff.2 fun i hi => h.ok i (by rw [← h.len]; exact hi))
/-- The window of the next hardness. -/
theorem within_next {x : Works} {bar : Int} {ways : List Int} {k : Nat} {hist : List Int} {n : Int} (hl : hist.length = k) : within x bar ways (hist ++ [n]) (k + 1) = aft (wayOf x ways k) n := by
  show aft (wayOf x ways k) (intAt (hist ++ [n]) k) = _
  rw [intAt_end hl.symm]
theorem pick_in {lo hi u : Int} (h : lo ≤ hi) (hu : 0 ≤ u) : lo ≤ lo + u % (hi - lo + 1) ∧ lo + u % (hi - lo + 1) ≤ hi := by
  have h1 := Int.emod_nonneg u (show hi - lo + 1 ≠ 0 by omega)
  have h2 := Int.emod_lt_of_pos u (show 0 < hi - lo + 1 by omega)
  omega

theorem wrap_low {n : Int} (h0 : 0 ≤ n) (h1 : n ≤ 1000) : wrap64 n = n := by unfold wrap64; omega
def RetLife (x : Works) (bar : Int) (ways : List Int) (w : World) (e : Ending) (w' : World) : Prop :=
  ∃ (A : Option Addr) (c : Nat) (hist : List Int), e = .returned (.slice A hist.length c) ∧ histErr x bar ways hist = 0 ∧ hist.length = x.steps.length + 1 ∧ IntsA .i64 w' w'.heap.size A hist ∧ hist.length ≤ c ∧ c ≤ 9223372036854775807 ∧ Below w.heap.size w w'

set_option maxRecDepth 100000 in
set_option maxHeartbeats 4000000 in
theorem true_ok (Ab As Ar Ay : Option Addr) (cb cs cr cy : Nat) (x : Works) (m : Nat) (ways by_ : List Int) (B : Nat) (w : World) (h : In w B Ab As Ar cb cs cr x ways) (hy : IntsW .u32 w B Ay by_) (hy1 : by_.length ≤ cy) (hy2 : cy ≤ 9223372036854775807) (ok : RecOk x (m : Int) ways) :
    Calls Try.prog 45 #[.agg #[.slice Ab x.bars.length cb, .slice As x.steps.length cs], .agg #[.int .i64 m, .slice Ar ways.length cr], .slice Ay by_.length cy] w (RetLife x m ways w) := by
  have hB := h.le
  have hwl : Hid (ways.length = x.steps.length) := ok.len
  have hs6 := steps_few ok.works
  have hmb : m < x.bars.length := by have := ok.bar1; omega
  have hmb' : (m : Int) < (x.bars.length : Int) := by omega
  obtain ⟨b0, o0, lo0, hi0, rfl, hb0, hx0, e0, e1⟩ := rgsA h.bars hmb
  have hv0 := bar_of ok.works hx0.out
  simp only at hv0
  have hw0 : Hid (within x m ways [] 0 = (lo0, hi0)) := Lib.hid (by simp only [within, Int.toNat_natCast, rgAt_of hx0])
  have hbw : b0 < w.heap.size := by omega
  have nn : (0 : Int) ≤ (m : Int) := by omega
  have OK := Lib.hid ok
  obtain ⟨i0, hi', hy0, hy1', hy2'⟩ := info_parts infoInt64
  generalize hny : by_.length = ny at *
  have NY := Lib.hid hny
  clear hny ok
  go_enter Try.func45, Try.ntmps45
  go_wp2_with fail
  go_loopw [8, 9] (fun out i wr => ∃ (k : Nat) (vw : Value) (hist : List Int) (lo hi : Int), k ≤ x.steps.length + 1 ∧ vw = out ∧ i = .int .i64 k ∧ Hid (Living x m ways k hist) ∧ (k ≤ x.steps.length → Hid (within x m ways hist k = (lo, hi)) ∧ 0 ≤ lo ∧ lo ≤ hi ∧ hi ≤ 1000) ∧ Below w.heap.size w wr ∧
      Hid (wr.ownsRow (w.heap.size + 3) 2 1 vw hist.length (intVals hist)) ∧
      Box wr w.heap.size 25 #[.slice (some ⟨b0, o0, none⟩) x.bars.length cb, .slice As x.steps.length cs] ∧ Box wr (w.heap.size + 1) 42 #[.int .i64 m, .slice Ar ways.length cr] ∧ Box wr (w.heap.size + 2) 33 #[.int .i64 lo, .int .i64 hi])
    (fun _ i _ => x.steps.length + 1 - (intOf i).toNat)
  case atStart =>
    refine ⟨0, _, [], lo0, hi0, by omega, rfl, rfl, Lib.hid ⟨rfl, fun i hi => absurd hi (by omega)⟩, fun _ => ⟨hw0, hv0⟩, bel, Lib.hid (World.ownsRow_nil _ _ _ _), ?_, ?_, ?_⟩
    all_goals exact bxt
  case round =>
    obtain ⟨k, vw, hist, lo, hi, hk, rfl, rfl, hlv, hwin, hbl, hov, bw, br, bn⟩ := hrel
    obtain ⟨Aw, cw, rfl⟩ := own_slice hov.out
    obtain ⟨u5, u6, u7, u8⟩ := bw.two
    obtain ⟨t5, t6, t7, t8⟩ := br.two
    obtain ⟨n5, n6, n7, n8⟩ := bn.two
    have hz1 := bw.lt
    have hz2 := br.lt
    have hz3 := bn.lt
    by_cases hlt : k ≤ x.steps.length
    · obtain ⟨hw, g0, g1, g2⟩ := hwin hlt
      have q1 : (k : Int) ≤ (ways.length : Int) := by have := hwl.out; omega
      have hlen : Hid (hist.length = k) := Lib.hid hlv.out.len
      by_cases hn : 0 < ny
      · obtain ⟨b, off, u, e, hb, d0, hwf⟩ := intsW (intsW_on hy hbl hB) (i := k % ny) (by rw [NY.out]; exact Nat.mod_lt _ hn)
        subst e
        have hub := u32_bounds hwf
        have hin := pick_in g1 hub.1
        have hbr : b < wr.heap.size := by omega
        have r0 : (0 : Int) ≤ (k : Int) % (ny : Int) := Int.emod_nonneg _ (by omega)
        have r1 : (k : Int) % (ny : Int) < (ny : Int) := Int.emod_lt_of_pos _ (by omega)
        have r2 : ((k : Int) % (ny : Int)).toNat = k % ny := by rw [← Int.natCast_emod, Int.toNat_natCast]
        have r3 : (0 : Int) < (ny : Int) := by omega
        have r4 : ¬ ny = 0 := by omega
        have r5 : (k : Int).tmod (ny : Int) = (k : Int) % (ny : Int) := Int.tmod_eq_emod_of_nonneg (by omega)
        have s1 : IntKind.i64.wrap (hi - lo) = hi - lo := IntWalk.i64_in _ (by omega)
        have s2 : IntKind.i64.wrap (hi - lo + 1) = hi - lo + 1 := IntWalk.i64_in _ (by omega)
        have s3 : ¬ hi - lo + 1 = 0 := by omega
        have s4 : u.tmod (hi - lo + 1) = u % (hi - lo + 1) := Int.tmod_eq_emod_of_nonneg (by omega)
        have s5 : IntKind.i64.wrap (lo + u % (hi - lo + 1)) = lo + u % (hi - lo + 1) := IntWalk.i64_in _ (by omega)
        have s5' : wrap64 (lo + u % (hi - lo + 1)) = lo + u % (hi - lo + 1) := wrap_low (by omega) (by omega)
        generalize hhv : (lo + u % (hi - lo + 1)) = hv at hin
        replace s5 := s5.trans hhv
        replace s5' := s5'.trans hhv
        clear hhv
        have s6 : IntKind.i64.wrap u = u := IntWalk.i64_in _ (by omega)
        by_cases hkn : k < x.steps.length
        · obtain ⟨b1, o1, b2, o2, b3, o3, A1, A2, c1, c2, ws, mm, ks, rfl, rfl, rfl, hb1', hb2', hb3', hmm, f1, f2, f3, l1, l2, l3, l4, hks, hwo, hwe, hne0, _⟩ := way_at h.steps h.rways OK.out hkn
          have s7 : (k : Int) < (ways.length : Int) := by have := hwl.out; omega
          have s8 : (mm : Int) < (ws.length : Int) := by omega
          have s9 : (k : Int) < (x.steps.length : Int) := by omega
          go_wp2_with fail
          go_quiet (fail)
          go_wp2_with (refine wpList_append_own _ rfl (.tmp 46) (.tmp 48) 43 rfl (w.heap.size + 3) 2 i0 _ 1 8 Try.underlying43 hi' hy0 hy1' hy2' rfl (by decide) (.slice Aw hist.length cw) hist.length (intVals hist) (by simp [Act.eval, Act.put]) (own_later hov.out bel) ⟨wr.heap.size, 0, none⟩ 1 1 [.int .i64 hv] (by simp [Act.eval, Act.put]) rfl (cells_one_new _ _ _ _ (by first | rfl | simp)) (by simp [Value.oneCell']) (by have := hlen.out; simp [maxLen]; omega) (by have := hlen.out; omega) (by rw [World.size_alloc]; first | omega | (show _ ≤ wr.heap.size + 1; omega)) ?_; intro v' w' hown hgrow _; have HO := Lib.hid hown; have HGr := Lib.hid hgrow; have p1 := box_keep_gb (g := w.heap.size) (t := 25) (cs := #[.slice (some ⟨b0, o0, none⟩) x.bars.length cb, .slice (some ⟨b1, o1, none⟩) x.steps.length cs]) (by exact bxt) (own_later hov.out bel) hgrow (by omega); have p2 := box_keep_gb (g := w.heap.size + 1) (t := 42) (cs := #[.int .i64 m, .slice (some ⟨b2, o2, none⟩) ways.length cr]) (by exact bxt) (own_later hov.out bel) hgrow (by omega); have p3 := box_keep_gb (g := w.heap.size + 2) (t := 33) (cs := #[.int .i64 lo, .int .i64 hi]) (by exact bxt) (own_later hov.out bel) hgrow (by omega); have p4 := below_gb (w := w) bel (own_later hov.out bel) hgrow (by omega); obtain ⟨j1, j2, j3, j4⟩ := p1.two; obtain ⟨j5, j6, j7, j8⟩ := p2.two; obtain ⟨j9, j10, j11, j12⟩ := p3.two; clear hown hgrow)
          have hv0' : 0 ≤ hv := by omega
          have hbA := aft_bounds OK.out (s := k) (by omega) hv hv0'
          rw [hwo.out] at hbA
          obtain ⟨a1, a2, hal⟩ : ∃ a1 a2, aft ks hv = (a1, a2) := ⟨_, _, rfl⟩
          rw [hal] at hbA
          simp only at hbA
          have haf : ∀ V, Below w.heap.size w V → Calls Try.prog 18 #[.agg #[.slice A2 ks.length c2], .int .i64 hv] V fun e w' => e = .returned (.tuple #[.agg #[.int .i64 a1, .int .i64 a2], .int .i64 0]) ∧ Below V.heap.size V w' := fun V hV => by
            have q := refAfterX_any A2 c2 ks hv B V (kinks_on hks hV hB) l3 l4 (Nat.le_trans hB hV.size)
            have q2 : aftV ks hv = .tuple #[.agg #[.int .i64 a1, .int .i64 a2], .int .i64 0] := by
              unfold aftV
              rw [if_pos hwe, if_pos (by simp only [hardB, decide_eq_true_eq]; omega), hal]
            rw [q2] at q
            exact q
          have HAF := Lib.hid haf
          have HAL := Lib.hid hal
          have f1' := (p4.cell (p := ⟨b1, o1 + k, none⟩) (by simp only []; omega)).trans f1
          have f2' := (p4.cell (p := ⟨b2, o2 + k, none⟩) (by simp only []; omega)).trans f2
          have f3' := (p4.cell (p := ⟨b3, o3 + mm, none⟩) (by simp only []; omega)).trans f3
          have y1 := p1.lt
          have y2 := p2.lt
          have y3 := p3.lt
          have y4 := p4.size
          have v1 : b1 < w'.heap.size := by omega
          have v2 : b2 < w'.heap.size := by omega
          have v3 : b3 < w'.heap.size := by omega
          clear haf hal hks f1 f2 f3
          have hcells : ∀ V, Below w'.heap.size w' V → (V.cell? ⟨w.heap.size, 0 + 1, none⟩ = some (.slice (some ⟨b1, o1, none⟩) x.steps.length cs) ∧ V.cell? ⟨w.heap.size + 1, 0 + 1, none⟩ = some (.slice (some ⟨b2, o2, none⟩) ways.length cr) ∧ V.cell? ⟨b1, o1 + k, none⟩ = some (.slice (some ⟨b3, o3, none⟩) ws.length c1) ∧ V.cell? ⟨b2, o2 + k, none⟩ = some (.int .i64 mm) ∧ V.cell? ⟨b3, o3 + mm, none⟩ = some (.slice A2 ks.length c2)) :=
            fun V hV => ⟨(Box.below p1 hV y1).cell 1, (Box.below p2 hV y2).cell 1, (hV.cell (p := ⟨b1, o1 + k, none⟩) v1).trans f1', (hV.cell (p := ⟨b2, o2 + k, none⟩) v2).trans f2', (hV.cell (p := ⟨b3, o3 + mm, none⟩) v3).trans f3'⟩
          have HC := Lib.hid hcells
          have hcells2 : ∀ V u v, Below w'.heap.size w' V → (fun V => V.cell? ⟨w.heap.size, 0 + 1, none⟩ = some (.slice (some ⟨b1, o1, none⟩) x.steps.length cs) ∧ V.cell? ⟨w.heap.size + 1, 0 + 1, none⟩ = some (.slice (some ⟨b2, o2, none⟩) ways.length cr) ∧ V.cell? ⟨b1, o1 + k, none⟩ = some (.slice (some ⟨b3, o3, none⟩) ws.length c1) ∧ V.cell? ⟨b2, o2 + k, none⟩ = some (.int .i64 mm) ∧ V.cell? ⟨b3, o3 + mm, none⟩ = some (.slice A2 ks.length c2)) ((V.setCell ⟨w.heap.size + 1 + 1, 0, none⟩ u).setCell ⟨w.heap.size + 1 + 1, 1, none⟩ v) := by
            intro V u v hV
            obtain ⟨z1, z2, z3, z4, z5⟩ := hcells V hV
            refine ⟨?_, ?_, ?_, ?_, ?_⟩ <;> rw [World.cell?_setCell_far _ _ _ _ (by simp only []; omega), World.cell?_setCell_far _ _ _ _ (by simp only []; omega)] <;> assumption
          have HC2 := Lib.hid hcells2
          clear hcells hcells2
          go_region_held3 (fun V => V.cell? ⟨w.heap.size, 0 + 1, none⟩ = some (.slice (some ⟨b1, o1, none⟩) x.steps.length cs) ∧ V.cell? ⟨w.heap.size + 1, 0 + 1, none⟩ = some (.slice (some ⟨b2, o2, none⟩) ways.length cr) ∧ V.cell? ⟨b1, o1 + k, none⟩ = some (.slice (some ⟨b3, o3, none⟩) ws.length c1) ∧ V.cell? ⟨b2, o2 + k, none⟩ = some (.int .i64 mm) ∧ V.cell? ⟨b3, o3 + mm, none⟩ = some (.slice A2 ks.length c2)) ((first | (with_reducible refine HC2.out _ _ _ ?_; exact bel) | exact HC.out _ bel)) ((go_at_call 18; refine (HAF.out _ bel).mono ?_; rintro e w6 ⟨rfl, hb6⟩; have hb7 : Below w'.heap.size w' w6 := bel; have r3 := Box.below p3 hb7 y3; obtain ⟨i9, i10, i11, i12⟩ := r3.two; have y6 := hb7.size))
          have r1 := Box.below p1 hb7 y1
          have r2 := Box.below p2 hb7 y2
          have r4 : Below w.heap.size w w6 := p4.trans (hb7.mono p4.size)
          have HO6 := Lib.hid (own_later HO.out hb7)
          clear f1' f2' f3' j1 j2 j3 j4 j5 j6 j7 j8 j9 j10 j11 j12 p1 p2 p3 p4 hb6 hb7 HC HC2
          have y9 := r3.lt
          go_wp2_with fail
          go_roundw
          case rel =>
            refine ⟨k + 1, v', hist ++ [hv], a1, a2, by omega, rfl, by go_num, Lib.hid (hlv.out.add (by rw [hw.out]; exact hin)), fun _ => ⟨Lib.hid (by rw [within_next hlv.out.len, hwo.out, HAL.out]), hbA⟩, bel, Lib.hid ?_, ?_, ?_, ?_⟩
            · rw [List.length_append, intVals_app]
              exact own_far (own_far HO6.out (by simp only []; omega) _) (by simp only []; omega) _
            all_goals exact bxt
          case measure => simp [intOf]; omega
        · obtain rfl : k = x.steps.length := by omega
          have s7 : ¬ (x.steps.length : Int) < (ways.length : Int) := by have := hwl.out; omega
          go_wp2_with fail
          go_quiet (fail)
          go_wp2_with (refine wpList_append_own _ rfl (.tmp 46) (.tmp 48) 43 rfl (w.heap.size + 3) 2 i0 _ 1 8 Try.underlying43 hi' hy0 hy1' hy2' rfl (by decide) (.slice Aw hist.length cw) hist.length (intVals hist) (by simp [Act.eval, Act.put]) (own_later hov.out bel) ⟨wr.heap.size, 0, none⟩ 1 1 [.int .i64 hv] (by simp [Act.eval, Act.put]) rfl (cells_one_new _ _ _ _ (by first | rfl | simp)) (by simp [Value.oneCell']) (by have := hlen.out; simp [maxLen]; omega) (by have := hlen.out; omega) (by rw [World.size_alloc]; first | omega | (show _ ≤ wr.heap.size + 1; omega)) ?_; intro v' w' hown hgrow _; have HO := Lib.hid hown; have HGr := Lib.hid hgrow; have p1 := box_keep_gb (g := w.heap.size) (t := 25) (cs := #[.slice (some ⟨b0, o0, none⟩) x.bars.length cb, .slice As x.steps.length cs]) (by exact bxt) (own_later hov.out bel) hgrow (by omega); have p2 := box_keep_gb (g := w.heap.size + 1) (t := 42) (cs := #[.int .i64 m, .slice Ar ways.length cr]) (by exact bxt) (own_later hov.out bel) hgrow (by omega); have p3 := box_keep_gb (g := w.heap.size + 2) (t := 33) (cs := #[.int .i64 lo, .int .i64 hi]) (by exact bxt) (own_later hov.out bel) hgrow (by omega); have p4 := below_gb (w := w) bel (own_later hov.out bel) hgrow (by omega); obtain ⟨j1, j2, j3, j4⟩ := p1.two; obtain ⟨j5, j6, j7, j8⟩ := p2.two; obtain ⟨j9, j10, j11, j12⟩ := p3.two; clear hown hgrow)
          go_roundw
          case rel =>
            refine ⟨x.steps.length + 1, v', hist ++ [hv], lo, hi, by omega, rfl, by go_num, Lib.hid (hlv.out.add (by rw [hw.out]; exact hin)), fun h => absurd h (by omega), p4, Lib.hid ?_, p1, p2, p3⟩
            rw [List.length_append, intVals_app]
            exact HO.out
          case measure => simp [intOf]
      · have hin : lo ≤ lo ∧ lo ≤ hi := ⟨Int.le_refl _, g1⟩
        have hn2 : ¬ (0 : Int) < (ny : Int) := by omega
        by_cases hkn : k < x.steps.length
        · obtain ⟨b1, o1, b2, o2, b3, o3, A1, A2, c1, c2, ws, mm, ks, rfl, rfl, rfl, hb1', hb2', hb3', hmm, f1, f2, f3, l1, l2, l3, l4, hks, hwo, hwe, hne0, _⟩ := way_at h.steps h.rways OK.out hkn
          have s7 : (k : Int) < (ways.length : Int) := by have := hwl.out; omega
          have s8 : (mm : Int) < (ws.length : Int) := by omega
          have s9 : (k : Int) < (x.steps.length : Int) := by omega
          go_wp2_with (refine wpList_append_own _ rfl (.tmp 46) (.tmp 48) 43 rfl (w.heap.size + 3) 2 i0 _ 1 8 Try.underlying43 hi' hy0 hy1' hy2' rfl (by decide) (.slice Aw hist.length cw) hist.length (intVals hist) (by simp [Act.eval, Act.put]) (own_later hov.out bel) ⟨wr.heap.size, 0, none⟩ 1 1 [.int .i64 lo] (by simp [Act.eval, Act.put]) rfl (cells_one_new _ _ _ _ (by first | rfl | simp)) (by simp [Value.oneCell']) (by have := hlen.out; simp [maxLen]; omega) (by have := hlen.out; omega) (by rw [World.size_alloc]; first | omega | (show _ ≤ wr.heap.size + 1; omega)) ?_; intro v' w' hown hgrow _; have HO := Lib.hid hown; have HGr := Lib.hid hgrow; have p1 := box_keep_gb (g := w.heap.size) (t := 25) (cs := #[.slice (some ⟨b0, o0, none⟩) x.bars.length cb, .slice (some ⟨b1, o1, none⟩) x.steps.length cs]) (by exact bxt) (own_later hov.out bel) hgrow (by omega); have p2 := box_keep_gb (g := w.heap.size + 1) (t := 42) (cs := #[.int .i64 m, .slice (some ⟨b2, o2, none⟩) ways.length cr]) (by exact bxt) (own_later hov.out bel) hgrow (by omega); have p3 := box_keep_gb (g := w.heap.size + 2) (t := 33) (cs := #[.int .i64 lo, .int .i64 hi]) (by exact bxt) (own_later hov.out bel) hgrow (by omega); have p4 := below_gb (w := w) bel (own_later hov.out bel) hgrow (by omega); obtain ⟨j1, j2, j3, j4⟩ := p1.two; obtain ⟨j5, j6, j7, j8⟩ := p2.two; obtain ⟨j9, j10, j11, j12⟩ := p3.two; clear hown hgrow)
          have hv0' : 0 ≤ lo := g0
          have hbA := aft_bounds OK.out (s := k) (by omega) lo hv0'
          rw [hwo.out] at hbA
          obtain ⟨a1, a2, hal⟩ : ∃ a1 a2, aft ks lo = (a1, a2) := ⟨_, _, rfl⟩
          rw [hal] at hbA
          simp only at hbA
          have haf : ∀ V, Below w.heap.size w V → Calls Try.prog 18 #[.agg #[.slice A2 ks.length c2], .int .i64 lo] V fun e w' => e = .returned (.tuple #[.agg #[.int .i64 a1, .int .i64 a2], .int .i64 0]) ∧ Below V.heap.size V w' := fun V hV => by
            have q := refAfterX_any A2 c2 ks lo B V (kinks_on hks hV hB) l3 l4 (Nat.le_trans hB hV.size)
            have q2 : aftV ks lo = .tuple #[.agg #[.int .i64 a1, .int .i64 a2], .int .i64 0] := by
              unfold aftV
              rw [if_pos hwe, if_pos (by simp only [hardB, decide_eq_true_eq]; omega), hal]
            rw [q2] at q
            exact q
          have HAF := Lib.hid haf
          have HAL := Lib.hid hal
          have f1' := (p4.cell (p := ⟨b1, o1 + k, none⟩) (by simp only []; omega)).trans f1
          have f2' := (p4.cell (p := ⟨b2, o2 + k, none⟩) (by simp only []; omega)).trans f2
          have f3' := (p4.cell (p := ⟨b3, o3 + mm, none⟩) (by simp only []; omega)).trans f3
          have y1 := p1.lt
          have y2 := p2.lt
          have y3 := p3.lt
          have y4 := p4.size
          have v1 : b1 < w'.heap.size := by omega
          have v2 : b2 < w'.heap.size := by omega
          have v3 : b3 < w'.heap.size := by omega
          clear haf hal hks f1 f2 f3
          have hcells : ∀ V, Below w'.heap.size w' V → (V.cell? ⟨w.heap.size, 0 + 1, none⟩ = some (.slice (some ⟨b1, o1, none⟩) x.steps.length cs) ∧ V.cell? ⟨w.heap.size + 1, 0 + 1, none⟩ = some (.slice (some ⟨b2, o2, none⟩) ways.length cr) ∧ V.cell? ⟨b1, o1 + k, none⟩ = some (.slice (some ⟨b3, o3, none⟩) ws.length c1) ∧ V.cell? ⟨b2, o2 + k, none⟩ = some (.int .i64 mm) ∧ V.cell? ⟨b3, o3 + mm, none⟩ = some (.slice A2 ks.length c2)) :=
            fun V hV => ⟨(Box.below p1 hV y1).cell 1, (Box.below p2 hV y2).cell 1, (hV.cell (p := ⟨b1, o1 + k, none⟩) v1).trans f1', (hV.cell (p := ⟨b2, o2 + k, none⟩) v2).trans f2', (hV.cell (p := ⟨b3, o3 + mm, none⟩) v3).trans f3'⟩
          have HC := Lib.hid hcells
          have hcells2 : ∀ V u v, Below w'.heap.size w' V → (fun V => V.cell? ⟨w.heap.size, 0 + 1, none⟩ = some (.slice (some ⟨b1, o1, none⟩) x.steps.length cs) ∧ V.cell? ⟨w.heap.size + 1, 0 + 1, none⟩ = some (.slice (some ⟨b2, o2, none⟩) ways.length cr) ∧ V.cell? ⟨b1, o1 + k, none⟩ = some (.slice (some ⟨b3, o3, none⟩) ws.length c1) ∧ V.cell? ⟨b2, o2 + k, none⟩ = some (.int .i64 mm) ∧ V.cell? ⟨b3, o3 + mm, none⟩ = some (.slice A2 ks.length c2)) ((V.setCell ⟨w.heap.size + 1 + 1, 0, none⟩ u).setCell ⟨w.heap.size + 1 + 1, 1, none⟩ v) := by
            intro V u v hV
            obtain ⟨z1, z2, z3, z4, z5⟩ := hcells V hV
            refine ⟨?_, ?_, ?_, ?_, ?_⟩ <;> rw [World.cell?_setCell_far _ _ _ _ (by simp only []; omega), World.cell?_setCell_far _ _ _ _ (by simp only []; omega)] <;> assumption
          have HC2 := Lib.hid hcells2
          clear hcells hcells2
          go_region_held3 (fun V => V.cell? ⟨w.heap.size, 0 + 1, none⟩ = some (.slice (some ⟨b1, o1, none⟩) x.steps.length cs) ∧ V.cell? ⟨w.heap.size + 1, 0 + 1, none⟩ = some (.slice (some ⟨b2, o2, none⟩) ways.length cr) ∧ V.cell? ⟨b1, o1 + k, none⟩ = some (.slice (some ⟨b3, o3, none⟩) ws.length c1) ∧ V.cell? ⟨b2, o2 + k, none⟩ = some (.int .i64 mm) ∧ V.cell? ⟨b3, o3 + mm, none⟩ = some (.slice A2 ks.length c2)) ((first | (with_reducible refine HC2.out _ _ _ ?_; exact bel) | exact HC.out _ bel)) ((go_at_call 18; refine (HAF.out _ bel).mono ?_; rintro e w6 ⟨rfl, hb6⟩; have hb7 : Below w'.heap.size w' w6 := bel; have r3 := Box.below p3 hb7 y3; obtain ⟨i9, i10, i11, i12⟩ := r3.two; have y6 := hb7.size))
          have r1 := Box.below p1 hb7 y1
          have r2 := Box.below p2 hb7 y2
          have r4 : Below w.heap.size w w6 := p4.trans (hb7.mono p4.size)
          have HO6 := Lib.hid (own_later HO.out hb7)
          clear f1' f2' f3' j1 j2 j3 j4 j5 j6 j7 j8 j9 j10 j11 j12 p1 p2 p3 p4 hb6 hb7 HC HC2
          have y9 := r3.lt
          go_wp2_with fail
          go_roundw
          case rel =>
            refine ⟨k + 1, v', hist ++ [lo], a1, a2, by omega, rfl, by go_num, Lib.hid (hlv.out.add (by rw [hw.out]; exact hin)), fun _ => ⟨Lib.hid (by rw [within_next hlv.out.len, hwo.out, HAL.out]), hbA⟩, bel, Lib.hid ?_, ?_, ?_, ?_⟩
            · rw [List.length_append, intVals_app]
              exact own_far (own_far HO6.out (by simp only []; omega) _) (by simp only []; omega) _
            all_goals exact bxt
          case measure => simp [intOf]; omega
        · obtain rfl : k = x.steps.length := by omega
          have s7 : ¬ (x.steps.length : Int) < (ways.length : Int) := by have := hwl.out; omega
          go_wp2_with (refine wpList_append_own _ rfl (.tmp 46) (.tmp 48) 43 rfl (w.heap.size + 3) 2 i0 _ 1 8 Try.underlying43 hi' hy0 hy1' hy2' rfl (by decide) (.slice Aw hist.length cw) hist.length (intVals hist) (by simp [Act.eval, Act.put]) (own_later hov.out bel) ⟨wr.heap.size, 0, none⟩ 1 1 [.int .i64 lo] (by simp [Act.eval, Act.put]) rfl (cells_one_new _ _ _ _ (by first | rfl | simp)) (by simp [Value.oneCell']) (by have := hlen.out; simp [maxLen]; omega) (by have := hlen.out; omega) (by rw [World.size_alloc]; first | omega | (show _ ≤ wr.heap.size + 1; omega)) ?_; intro v' w' hown hgrow _; have HO := Lib.hid hown; have HGr := Lib.hid hgrow; have p1 := box_keep_gb (g := w.heap.size) (t := 25) (cs := #[.slice (some ⟨b0, o0, none⟩) x.bars.length cb, .slice As x.steps.length cs]) (by exact bxt) (own_later hov.out bel) hgrow (by omega); have p2 := box_keep_gb (g := w.heap.size + 1) (t := 42) (cs := #[.int .i64 m, .slice Ar ways.length cr]) (by exact bxt) (own_later hov.out bel) hgrow (by omega); have p3 := box_keep_gb (g := w.heap.size + 2) (t := 33) (cs := #[.int .i64 lo, .int .i64 hi]) (by exact bxt) (own_later hov.out bel) hgrow (by omega); have p4 := below_gb (w := w) bel (own_later hov.out bel) hgrow (by omega); obtain ⟨j1, j2, j3, j4⟩ := p1.two; obtain ⟨j5, j6, j7, j8⟩ := p2.two; obtain ⟨j9, j10, j11, j12⟩ := p3.two; clear hown hgrow)
          go_roundw
          case rel =>
            refine ⟨x.steps.length + 1, v', hist ++ [lo], lo, hi, by omega, rfl, by go_num, Lib.hid (hlv.out.add (by rw [hw.out]; exact hin)), fun h => absurd h (by omega), p4, Lib.hid ?_, p1, p2, p3⟩
            rw [List.length_append, intVals_app]
            exact HO.out
          case measure => simp [intOf]
    · obtain rfl : k = x.steps.length + 1 := by omega
      have q1 : ¬ ((x.steps.length : Int) + 1 ≤ (ways.length : Int)) := by have := hwl.out; omega
      clear hwin
      go_wp2_with fail
      go_ret
      obtain ⟨A, c, e, p1, p2, p3⟩ := own_ints hov.out
      injection e with e1 e2 e3
      subst e1
      subst e3
      exact ⟨_, _, hist, rfl, hlv.out.done OK.out, hlv.out.len, p3, p1, p2, hbl⟩
end Go.Proofs.Ytigpefjeelgfdaa

/-
  Walks of layer 1's statements: a history that agrees.
-/
namespace Go.Proofs.Ytigpefjeelgfdaa
open Go.RowKit

set_option maxRecDepth 100000 in
set_option maxHeartbeats 1000000 in
theorem agrees_true (Ab As Ar Ah : Option Addr) (cb cs cr ch : Nat) (x : Works) (bar : Int) (ways hist : List Int) (lo hi : Int) (B : Nat) (w : World) (h : In w B Ab As Ar cb cs cr x ways)
    (hh : IntsA .i64 w B Ah hist) (ch1 : hist.length ≤ ch) (ch2 : ch ≤ 9223372036854775807) (G : Hid (recErr x bar ways = 0)) (hl : Hid (hist.length = x.steps.length + 1)) (H : Hid (histErr x bar ways hist = 0)) (hin : Hid (inB (intAt hist x.steps.length) lo hi = true)) :
    Calls Try.prog 31 #[.agg #[.slice Ab x.bars.length cb, .slice As x.steps.length cs], .agg #[.int .i64 bar, .slice Ar ways.length cr], .slice Ah hist.length ch, .agg #[.int .i64 lo, .int .i64 hi]] w
      fun e w' => e = .returned (.bool true) ∧ Below w.heap.size w w' := by
  have hB := h.le
  have hs6 := steps_few (recOk_iff.1 G.out).works
  obtain ⟨bh, oh, n, rfl, hbh, hx, d0⟩ := intsA hh (i := x.steps.length) (by have := hl.out; omega)
  have hbw : bh < w.heap.size := by omega
  have hin' := hin
  rw [intAt_of hx] at hin'
  have hlen : ((hist.length : Nat) : Int) - 1 = (x.steps.length : Int) := by have := hl.out; omega
  have hlen2 : (x.steps.length : Int) < (hist.length : Int) := by have := hl.out; omega
  have hch : ∀ W : World, Below w.heap.size w W → Calls Try.prog 27 #[.agg #[.slice Ab x.bars.length cb, .slice As x.steps.length cs], .agg #[.int .i64 bar, .slice Ar ways.length cr], .slice (some ⟨bh, oh, none⟩) hist.length ch] W fun e w' => e = .returned (.int .i64 0) ∧ Below W.heap.size W w' := fun W hW => by
    have := refCheckHistory_ok Ab As Ar (some ⟨bh, oh, none⟩) cb cs cr ch x bar ways hist B W (h.on hW hB) (ints_on hh hW hB) ch1 ch2 G hl
    rw [H.out] at this
    exact this
  have HCH := Lib.hid hch
  have HX := Lib.hid hx
  clear hch hx
  go_enter Try.func31, Try.ntmps31
  go_wp2_with fail
  generalize hW : ((w.alloc (.cells #[.slice Ab x.bars.length cb, .slice As x.steps.length cs] 25)).alloc (.cells #[.int .i64 bar, .slice Ar ways.length cr] 42)).alloc (.cells #[.int .i64 lo, .int .i64 hi] 33) = W0
  have hb0 : Below w.heap.size w W0 := by rw [← hW]; exact bel
  have b1 : Box W0 w.heap.size 25 #[.slice Ab x.bars.length cb, .slice As x.steps.length cs] := by rw [← hW]; exact bxt
  have b2 : Box W0 (w.heap.size + 1) 42 #[.int .i64 bar, .slice Ar ways.length cr] := by rw [← hW]; exact bxt
  have b3 : Box W0 (w.heap.size + 1 + 1) 33 #[.int .i64 lo, .int .i64 hi] := by rw [← hW]; exact bxt
  clear hW
  have z0 := hb0.size
  have z1 := b1.lt
  have z2 := b2.lt
  have z3 := b3.lt
  have c0 : W0.cell? ⟨w.heap.size, 0, none⟩ = _ := b1.cell 0
  have c1 : W0.cell? ⟨w.heap.size, 0 + 1, none⟩ = _ := b1.cell 1
  have c2 : W0.cell? ⟨w.heap.size + 1, 0, none⟩ = _ := b2.cell 0
  have c3 : W0.cell? ⟨w.heap.size + 1, 0 + 1, none⟩ = _ := b2.cell 1
  have c4 : W0.cell? ⟨w.heap.size + 1 + 1, 0, none⟩ = _ := b3.cell 0
  have c5 : W0.cell? ⟨w.heap.size + 1 + 1, 0 + 1, none⟩ = _ := b3.cell 1
  have c6 : W0.cell? ⟨bh, oh + x.steps.length, none⟩ = some (.int .i64 n) := (hb0.cell (p := ⟨bh, oh + x.steps.length, none⟩) hbw).trans d0
  have hbw0 : bh < W0.heap.size := by omega
  have HIN := Lib.hid hin'
  clear hin'
  go_goals
  refine wp_region_later (by kernel_rfl) (by kernel_rfl) ?_; have _hl := later_reads (W0); (repeat (go_big_quiet_step ((first | (go_at_call 27; exact LaterW.callsB (fun V hV => HCH.out V (hb0.trans (hV.mono z0)))) | (go_at_call 46; have q := refIn_any n lo hi; rw [HIN.out] at q; exact LaterW.calls (q _)))))); refine wpQuiet_nil ?_; intro w2 hw'; have hb_w2 := later_below hw'; clear hw' _hl
  go_wp2_with fail
  go_ret
  exact ⟨rfl, hb0.trans (hb_w2.mono z0)⟩
end Go.Proofs.Ytigpefjeelgfdaa

/-
  Walks of layer 1's statements: Works.
-/
namespace Go.Proofs.Ytigpefjeelgfdaa
open Go.RowKit

theorem house_ws {ws : List (List Kink)} (h : Hid (houseX.steps[1]? = some ws)) : Hid (ws = [[⟨0, 200, 300⟩, ⟨420, 280, 400⟩, ⟨550, 350, 480⟩]]) := by
  have := h.out
  simp only [houseX, List.getElem?_cons_succ, List.getElem?_cons_zero, Option.some.injEq] at this
  exact this.symm
theorem house_ks {ws : List (List Kink)} {ks : List Kink} (hw : Hid (ws = [[⟨0, 200, 300⟩, ⟨420, 280, 400⟩, ⟨550, 350, 480⟩]])) (h : Hid (ws[0]? = some ks)) : Hid (ks = [⟨0, 200, 300⟩, ⟨420, 280, 400⟩, ⟨550, 350, 480⟩]) := by
  have := h.out
  rw [hw.out] at this
  simp only [List.getElem?_cons_zero, Option.some.injEq] at this
  exact this.symm
theorem In.with_ {w w' : World} {B : Nat} {Ab As Ar : Option Addr} {cb cs cr : Nat} {x : Works} {ways : List Int} (h : In w B Ab As none cb cs 0 x []) (hb : Below w.heap.size w w') (hr : IntsA .i64 w' w'.heap.size Ar ways) (c1 : ways.length ≤ cr) (c2 : cr ≤ 9223372036854775807) :
    In w' w'.heap.size Ab As Ar cb cs cr x ways :=
  have hs : Same B w w' := Same.of_below (hb.mono h.le)
  have hz : B ≤ w'.heap.size := Nat.le_trans h.le hb.size
  ⟨SLa.keep h.bars hz fun _ _ _ hb hx => RgAt.keep hx hs hb, SLa.keep h.steps hz fun _ _ _ hlt ⟨u, h1, h2⟩ => ⟨u, (hs.cell hlt _).trans h1, h2.keep hs hz⟩, hr, h.cb1, h.cb2, h.cs1, h.cs2, c1, c2, Nat.le_refl _⟩
theorem zeros_box {w : World} {g : Nat} {t : TypeId} (h : Box w g t #[.int .i64 0, .int .i64 0]) : IntsA .i64 w w.heap.size (some ⟨g, 0, none⟩) [0, 0] := by
  obtain ⟨A, c, hv, _, _, hs⟩ := ints_box (k := .i64) (l := [0, 0]) (c := 2) h (by simp) (by simp)
  cases hv
  exact hs

theorem zeros_at {W v : World} (h : Below (W.drew.alloc (.cells #[.int .i64 0, .int .i64 0] 3)).heap.size (W.drew.alloc (.cells #[.int .i64 0, .int .i64 0] 3)) v) : IntsA .i64 v v.heap.size (some ⟨W.heap.size, 0, none⟩) [0, 0] :=
  zeros_box (t := 3) (Box.below (Box.new W.drew _ _) h (by simp only [World.size_alloc]; exact Nat.lt_succ_self _))
theorem houseRanges_read {Ab As Ar : Option Addr} {cb cs cr : Nat} {B : Nat} {w : World} (h : In w B Ab As Ar cb cs cr houseX [0, 0]) :
    CallsF 23 #[.agg #[.slice Ab houseX.bars.length cb, .slice As houseX.steps.length cs], .agg #[.int .i64 1, .slice Ar 2 cr]] w (Fact.res (Fact.rgs [(150, 300), (400, 600), (200, 480)]) 0) := by
  have h1 := heatRanges_read (bar := 1) h
  have e : endsL (rowOf houseX [0, 0] (barP houseX (1 : Int).toNat)) (houseX.steps.length + 1) = [(150, 300), (400, 600), (200, 480)] := houseRanges1
  rw [e, houseRec1] at h1
  exact h1
theorem houseHistory_read {Ab As Ar : Option Addr} {cb cs cr : Nat} {B : Nat} {w : World} (h : In w B Ab As Ar cb cs cr houseX [0, 0]) :
    CallsF 30 #[.agg #[.slice Ab houseX.bars.length cb, .slice As houseX.steps.length cs], .agg #[.int .i64 1, .slice Ar 2 cr], .agg #[.int .i64 410, .int .i64 420]] w (Fact.res (Fact.ints [180, 550, 410]) 0) := by
  have h1 := heatHistory_read (bar := 1) (lo := 410) (hi := 420) h
  rw [houseHistory, houseAgr1] at h1
  exact h1
theorem houseHistory0_read {Ab As Ar : Option Addr} {cb cs cr : Nat} {B : Nat} {w : World} (h : In w B Ab As Ar cb cs cr houseX [0, 0]) :
    CallsF 30 #[.agg #[.slice Ab houseX.bars.length cb, .slice As houseX.steps.length cs], .agg #[.int .i64 0, .slice Ar 2 cr], .agg #[.int .i64 410, .int .i64 420]] w (Fact.res Fact.any 17) := by
  have h1 := heatHistory_read (bar := 0) (lo := 410) (hi := 420) h
  rw [houseAgr0] at h1
  refine Calls.mono h1 ?_
  rintro e w' ⟨v, rfl, ⟨u, hu, _, h3⟩, hb⟩
  exact ⟨v, rfl, ⟨u, hu, fun _ => trivial, h3⟩, hb⟩
theorem houseHad_read {Ab As Ar : Option Addr} {cb cs cr : Nat} {B : Nat} {w : World} (h : In w B Ab As Ar cb cs cr houseX [0, 0]) :
    CallsF 28 #[.agg #[.slice Ab houseX.bars.length cb, .slice As houseX.steps.length cs], .agg #[.int .i64 1, .slice Ar 2 cr], .agg #[.int .i64 410, .int .i64 420]] w (Fact.res (Fact.rgs [(180, 300), (550, 600), (410, 420)]) 0) := by
  have h1 := heatHad_read (bar := 1) (lo := 410) (hi := 420) h
  have e : endsL (agrRows houseX 1 [0, 0] 410 420) (houseX.steps.length + 1) = [(180, 300), (550, 600), (410, 420)] := houseHad
  rw [e, houseAgr1] at h1
  exact h1
theorem houseBars_read {Ab As : Option Addr} {cb cs : Nat} {B : Nat} {w : World} (h : In w B Ab As none cb cs 0 houseX []) :
    CallsF 33 #[.agg #[.slice Ab houseX.bars.length cb, .slice As houseX.steps.length cs], .agg #[.int .i64 410, .int .i64 420]] w (Fact.res (Fact.ints [0, 1]) 0) := by
  have h1 := heatBars_read (mlo := 410) (mhi := 420) h
  rw [houseBars, houseSome] at h1
  exact h1
theorem houseWays_read {Ab As : Option Addr} {cb cs : Nat} {B : Nat} {w : World} (h : In w B Ab As none cb cs 0 houseX []) :
    CallsF 35 #[.agg #[.slice Ab houseX.bars.length cb, .slice As houseX.steps.length cs], .agg #[.int .i64 410, .int .i64 420]] w (Fact.res (Fact.lists [[0, 1], [0]]) 0) := by
  have h1 := heatWays_read (mlo := 410) (mhi := 420) h
  have e : ((List.range houseX.steps.length).map fun (i : Nat) => leftN houseX 410 420 i) = [[0, 1], [0]] := by
    show [leftN houseX 410 420 ((0 : Nat) : Int), leftN houseX 410 420 ((1 : Nat) : Int)] = _
    rw [show ((0 : Nat) : Int) = 0 from rfl, show ((1 : Nat) : Int) = 1 from rfl, houseLeft0, houseLeft1]
  rw [e, houseSome] at h1
  exact h1
theorem houseCheck {h0 h1 h2 r : Int} (hr : histErr houseX 1 [0, 0] [h0, h1, h2] = r) {Ab As Ar Ah : Option Addr} {cb cs cr ch B : Nat} {w : World} (h : In w B Ab As Ar cb cs cr houseX [0, 0]) (hh : IntsA .i64 w B Ah [h0, h1, h2]) (c1 : 3 ≤ ch) (c2 : ch ≤ 9223372036854775807) :
    CallsF 26 #[.agg #[.slice Ab houseX.bars.length cb, .slice As houseX.steps.length cs], .agg #[.int .i64 1, .slice Ar 2 cr], .slice Ah 3 ch] w (Fact.eq (.int .i64 r)) := by
  have := heatCheckHistory_any Ab As Ar Ah cb cs cr ch houseX 1 [0, 0] [h0, h1, h2] B w h hh c1 c2
  rw [hr] at this
  refine Calls.mono this ?_
  rintro e w' ⟨rfl, hb⟩
  exact ⟨_, rfl, rfl, hb⟩
theorem houseCount_read {Ab As : Option Addr} {cb cs : Nat} {B : Nat} {w : World} (h : In w B Ab As none cb cs 0 houseX []) :
    Calls Try.prog 37 #[.agg #[.slice Ab houseX.bars.length cb, .slice As houseX.steps.length cs], .agg #[.int .i64 410, .int .i64 420]] w fun e w' => e = .returned (.tuple #[.int .i64 3, .int .i64 0]) ∧ Below w.heap.size w w' := by
  have := heatCount_any Ab As cb cs houseX 410 420 B w h
  rw [houseMak, houseTot] at this
  exact this
theorem houseAsk_read {Ab As : Option Addr} {cb cs : Nat} {B : Nat} {w : World} (h : In w B Ab As none cb cs 0 houseX []) :
    Calls Try.prog 41 #[.agg #[.slice Ab houseX.bars.length cb, .slice As houseX.steps.length cs], .agg #[.int .i64 410, .int .i64 420]] w fun e w' => e = .returned (.tuple #[.int .i64 (-1), .int .i64 2, .int .i64 0]) ∧ Below w.heap.size w w' := by
  have := heatAsk_any Ab As cb cs houseX 410 420 B w h
  rw [houseAsk] at this
  exact this
theorem houseAgrees {Ab As Ar Ah : Option Addr} {cb cs cr ch B : Nat} {w : World} (h : In w B Ab As Ar cb cs cr houseX [0, 0]) (hh : IntsA .i64 w B Ah [180, 550, 410]) (c1 : 3 ≤ ch) (c2 : ch ≤ 9223372036854775807) :
    Calls Try.prog 31 #[.agg #[.slice Ab houseX.bars.length cb, .slice As houseX.steps.length cs], .agg #[.int .i64 1, .slice Ar 2 cr], .slice Ah 3 ch, .agg #[.int .i64 410, .int .i64 420]] w fun e w' => e = .returned (.bool true) ∧ Below w.heap.size w w' :=
  agrees_true Ab As Ar Ah cb cs cr ch houseX 1 [0, 0] [180, 550, 410] 410 420 B w h hh c1 c2 (Lib.hid houseRec1) (Lib.hid rfl) (Lib.hid houseHist3) (Lib.hid (by decide))
theorem wp_join {c : Code} {K : Act → World → Prop} {Q : Exit → Act → World → Prop} {a : Act} {w : World} (R : Act → Act → World → Prop) (h1 : c.wp Try.prog (Exit.then (R a) Q) a w) (h2 : ∀ a' w', R a a' w' → Exit.then K Q .normal a' w') : c.wp Try.prog (Exit.then K Q) a w :=
  Code.wp_mono (fun e a w h => by cases e <;> first | exact h2 _ _ h | exact h) h1
set_option maxRecDepth 100000 in
set_option maxHeartbeats 4000000 in
theorem works_any (w : World) : Calls Try.prog 16 #[] w fun e w' => e = .returned (.bool true) ∧ Below w.heap.size w w' := by
  go_enter Try.func16, Try.ntmps16
  go_wp2_with (first
    | (go_at_call 52; refine (house_any _).mono ?_; rintro e w1 ⟨Ab, As, cb, cs, rfl, hin, hb1⟩)
    | (go_at_call 48; refine (rg_any _ _ _).mono ?_; rintro e w2 ⟨rfl, hb2⟩; obtain ⟨sb, so, A1, c1, ws, rfl, hsb, hws, d1, l1, l2, hwsA⟩ := stepsA hin.steps (i := 1) (by decide); have hwe := house_ws hws; obtain ⟨kb, ko, A2, c2, ks, rfl, hkb, hks, d2, l3, l4, hksA⟩ := waysA hwsA (i := 0) (by rw [hwe.out]; simp); have hke := house_ks hwe hks; have i1 : (1 : Int) < (houseX.steps.length : Int) := (by decide); have i2 : (0 : Int) < (ws.length : Int) := (by rw [hwe.out]; simp); have z2 := hb2.size; have y1 : sb < w2.heap.size := (by omega); have y2 : kb < w2.heap.size := (by omega); have d1' := (hb2.cell (p := ⟨sb, so + 1, none⟩) hsb).trans d1; have d2' := (hb2.cell (p := ⟨kb, ko + 0, none⟩) hkb).trans d2; simp only [Nat.add_zero] at d2')
    | (go_at_call 17; refine (heatAfterX_any A2 c2 ks 420 w1.heap.size _ (kinks_on hksA (n := w1.heap.size) bel (Nat.le_refl _)) l3 l4 (by (focus (first | omega | (simp only [World.size_alloc, World.size_setCell, World.size_drew, World.heap_drewN]; first | done | omega))))).mono ?_; rintro e w3 ⟨rfl, hb3⟩; rw [hke.out, houseAft]))
  have z1 := hb1.size
  have z3 := hb3.size
  simp only [World.size_alloc] at z3
  have hbW : Below w.heap.size w (w3.alloc (.cells #[.int .i64 280, .int .i64 400] 33)) := bel
  have hbW1 : Below w1.heap.size w1 (w3.alloc (.cells #[.int .i64 280, .int .i64 400] 33)) := bel
  have BW : Box (w3.alloc (.cells #[.int .i64 280, .int .i64 400] 33)) w2.heap.size 25 #[.slice Ab houseX.bars.length cb, .slice (some ⟨sb, so, none⟩) houseX.steps.length cs] := by exact bxt
  have BM : Box (w3.alloc (.cells #[.int .i64 280, .int .i64 400] 33)) (w2.heap.size + 1) 33 #[.int .i64 410, .int .i64 420] := by exact bxt
  have BA : Box (w3.alloc (.cells #[.int .i64 280, .int .i64 400] 33)) w3.heap.size 33 #[.int .i64 280, .int .i64 400] := Box.new _ _ _
  generalize w3.alloc (.cells #[.int .i64 280, .int .i64 400] 33) = W at hbW hbW1 BW BM BA ⊢
  generalize w2.heap.size = t1 at BW BM ⊢
  generalize w3.heap.size = t3 at BA ⊢
  clear d1 d2 d1' d2' hb2 hb3 y1 y2 z1 z2 z3 hksA hwsA hks hws hke hwe
  have q1 := BW.lt
  have q2 := BM.lt
  have q3 := BA.lt
  obtain ⟨c0, c1, f0, f1⟩ := BW.two
  have hS : ∀ V, Below W.heap.size W V → V.cell? ⟨t1, 0, none⟩ = some (.slice Ab houseX.bars.length cb) ∧ V.cell? ⟨t1, 0 + 1, none⟩ = some (.slice (some ⟨sb, so, none⟩) houseX.steps.length cs) := fun V hV => ⟨(Box.below BW hV q1).cell 0, (Box.below BW hV q1).cell 1⟩
  have HS := Lib.hid hS
  clear hS
  -- generated from here
  have hM : ∀ V, Below W.heap.size W V → V.cell? ⟨t1 + 1, 0, none⟩ = some (.int .i64 410) ∧ V.cell? ⟨t1 + 1, 0 + 1, none⟩ = some (.int .i64 420) := fun V hV => ⟨(Box.below BM hV q2).cell 0, (Box.below BM hV q2).cell 1⟩
  have HM := Lib.hid hM
  clear hM
  have hA : ∀ V, Below W.heap.size W V → V.cell? ⟨t3, 0, none⟩ = some (.int .i64 280) ∧ V.cell? ⟨t3, 0 + 1, none⟩ = some (.int .i64 400) := fun V hV => ⟨(Box.below BA hV q3).cell 0, (Box.below BA hV q3).cell 1⟩
  have HA := Lib.hid hA
  clear hA
  have hI : ∀ V, Below W.heap.size W V → In V V.heap.size Ab (some ⟨sb, so, none⟩) none cb cs 0 houseX [] := fun V hV => hin.with_ (hbW1.trans (hV.mono hbW1.size)) (fun h => absurd h (by simp)) (by simp) (by decide)
  have HI := Lib.hid hI
  clear hI hin hbW1 c0 c1 f0 f1 BW BM BA q1 q2 q3
  have g2 : Below W.heap.size W W := Below.refl _ _
  -- region 3
  refine wp_region_facts (F := ?_) [Fact.eq (.agg #[.slice Ab houseX.bars.length cb, .slice (some ⟨sb, so, none⟩) houseX.steps.length cs]), Fact.ints [0, 0], Fact.second (.int .i64 1) (Fact.ints [0, 0]), Fact.res (Fact.rgs [(150, 300), (400, 600), (200, 480)]) 0, Fact.res (Fact.rgs [(150, 300), (400, 600), (200, 480)]) 0, Fact.rgs [(150, 300), (400, 600), (200, 480)], Fact.eq (.int .i64 0), Fact.rgs [(150, 300), (400, 600), (200, 480)], Fact.eq (.int .i64 0)] (by kernel_rfl) (by kernel_rfl) (by kernel_rfl) (by intro x; simp only [List.map_cons, List.map_nil, putAll, Act.put, List.setIfInBounds_toArray, List.set_cons_zero, List.set_cons_succ, Nat.zero_add, Nat.reduceAdd]; rfl) ?_ ?_
  · refine StepsF.cons (fun x V hV hp K hK => ?_) ?_
    · obtain ⟨_c0, _c1⟩ := HS.out V (g2.trans (hV.mono g2.size))
      go_simp
      exact hK.out _ _ rfl (Below.refl _ _)
    refine StepsF.cons (fun x V hV hp K hK => ?_) ?_
    · go_simp
      exact hK.out _ _ (ints_box (l := [0, 0]) (Box.new _ _ _) (by simp) (by decide)) ((Below.refl _ _).alloc (Nat.le_refl _) _)
    refine StepsF.cons (fun x V hV hp K hK => ?_) ?_
    · obtain ⟨zA, zc, _hv, zk1, zk2, zks⟩ := depsAll_get hp 1 (by kernel_rfl); (try simp only [List.length_cons, List.length_nil, Nat.zero_add, Nat.reduceAdd] at _hv zk1); generalize x 1 = _y at _hv hK ⊢; subst _hv
      go_simp
      refine (recipe_laid _ _ _ _ _).mono ?_
      rintro e v1 ⟨rfl, hb⟩
      exact hK.out _ _ ⟨_, rfl, Fact.keep (Fact.ints [0, 0]) _ _ _ hb ⟨zA, zc, rfl, zk1, zk2, zks⟩⟩ hb
    refine StepsF.cons (fun x V hV hp K hK => ?_) ?_
    · have _e := depsAll_get hp 0 (by kernel_rfl); change x 0 = _ at _e; generalize x 0 = _y at _e hK ⊢; subst _e
      obtain ⟨_u, _hu, _A, _c, _hv, _k1, _k2, _ks⟩ := depsAll_get hp 2 (by kernel_rfl); (try simp only [List.length_cons, List.length_nil, Nat.zero_add, Nat.reduceAdd] at _hv _k1); subst _hv; generalize x 2 = _y at _hu hK ⊢; subst _hu
      go_simp
      refine Calls.mono (houseRanges_read ((HI.out V (g2.trans (hV.mono g2.size))).with_ (Below.refl _ _) _ks _k1 _k2)) ?_
      rintro e v1 ⟨v, rfl, hv, hb⟩
      exact hK.out _ _ hv hb
    refine StepsF.cons (fun x V hV hp K hK => ?_) ?_
    · obtain ⟨_u, _hu, _H⟩ := depsAll_get hp 3 (by kernel_rfl); replace _H := Lib.hid _H; generalize x 3 = _y at _hu hK ⊢; subst _hu
      go_simp
      exact hK.out _ _ ⟨_u, rfl, _H.out.1, _H.out.2⟩ (Below.refl _ _)
    refine StepsF.cons (fun x V hV hp K hK => ?_) ?_
    · obtain ⟨_u, _hu, _H⟩ := depsAll_get hp 4 (by kernel_rfl); replace _H := Lib.hid _H; generalize x 4 = _y at _hu hK ⊢; subst _hu
      go_simp
      exact hK.out _ _ (_H.out.1 rfl) (Below.refl _ _)
    refine StepsF.cons (fun x V hV hp K hK => ?_) ?_
    · obtain ⟨_u, _hu, _H⟩ := depsAll_get hp 4 (by kernel_rfl); replace _H := Lib.hid _H; generalize x 4 = _y at _hu hK ⊢; subst _hu
      go_simp
      exact hK.out _ _ rfl (Below.refl _ _)
    refine StepsF.cons (fun x V hV hp K hK => ?_) ?_
    · have _p := depsAll_get hp 5 (by kernel_rfl)
      go_simp
      exact hK.out _ _ _p (Below.refl _ _)
    refine StepsF.cons (fun x V hV hp K hK => ?_) ?_
    · have _e := depsAll_get hp 6 (by kernel_rfl); change x 6 = _ at _e; generalize x 6 = _y at _e hK ⊢; subst _e
      go_simp
      exact hK.out _ _ rfl (Below.refl _ _)
    exact StepsF.nil
  intro x v3 hV hall
  have g3 : Below W.heap.size W v3 := g2.trans (hV.mono g2.size)
  have _e := hall 8 (by decide)
  change x 8 = _ at _e
  generalize x 8 = _y at _e ⊢
  subst _e
  have p3 := hall 7 (by decide)
  generalize x 7 = r3 at p3 ⊢
  have P3 := Lib.hid p3
  clear p3
  have D3 := Lib.hid hV
  clear hV hall
  go_wp2_with fail
  -- region 4
  refine wp_region_facts (F := ?_) [Fact.eq (.agg #[.slice Ab houseX.bars.length cb, .slice (some ⟨sb, so, none⟩) houseX.steps.length cs]), Fact.ints [0, 0], Fact.second (.int .i64 1) (Fact.ints [0, 0]), Fact.ints [200, 560, 415], Fact.eq (.int .i64 0), Fact.eq (.int .i64 0)] (by kernel_rfl) (by kernel_rfl) (by kernel_rfl) (by intro x; simp only [List.map_cons, List.map_nil, putAll, Act.put, List.setIfInBounds_toArray, List.set_cons_zero, List.set_cons_succ, Nat.zero_add, Nat.reduceAdd]; rfl) ?_ ?_
  · refine StepsF.cons (fun x V hV hp K hK => ?_) ?_
    · obtain ⟨_c0, _c1⟩ := HS.out V (g3.trans (hV.mono g3.size))
      go_simp
      exact hK.out _ _ rfl (Below.refl _ _)
    refine StepsF.cons (fun x V hV hp K hK => ?_) ?_
    · go_simp
      exact hK.out _ _ (ints_box (l := [0, 0]) (Box.new _ _ _) (by simp) (by decide)) ((Below.refl _ _).alloc (Nat.le_refl _) _)
    refine StepsF.cons (fun x V hV hp K hK => ?_) ?_
    · obtain ⟨zA, zc, _hv, zk1, zk2, zks⟩ := depsAll_get hp 1 (by kernel_rfl); (try simp only [List.length_cons, List.length_nil, Nat.zero_add, Nat.reduceAdd] at _hv zk1); generalize x 1 = _y at _hv hK ⊢; subst _hv
      go_simp
      refine (recipe_laid _ _ _ _ _).mono ?_
      rintro e v1 ⟨rfl, hb⟩
      exact hK.out _ _ ⟨_, rfl, Fact.keep (Fact.ints [0, 0]) _ _ _ hb ⟨zA, zc, rfl, zk1, zk2, zks⟩⟩ hb
    refine StepsF.cons (fun x V hV hp K hK => ?_) ?_
    · go_simp
      exact hK.out _ _ (ints_box (l := [200, 560, 415]) (Box.new _ _ _) (by simp) (by decide)) ((Below.refl _ _).alloc (Nat.le_refl _) _)
    refine StepsF.cons (fun x V hV hp K hK => ?_) ?_
    · have _e := depsAll_get hp 0 (by kernel_rfl); change x 0 = _ at _e; generalize x 0 = _y at _e hK ⊢; subst _e
      obtain ⟨yA, yc, _hv, yk1, yk2, yks⟩ := depsAll_get hp 3 (by kernel_rfl); (try simp only [List.length_cons, List.length_nil, Nat.zero_add, Nat.reduceAdd] at _hv yk1); generalize x 3 = _y at _hv hK ⊢; subst _hv
      obtain ⟨_u, _hu, _A, _c, _hv, _k1, _k2, _ks⟩ := depsAll_get hp 2 (by kernel_rfl); (try simp only [List.length_cons, List.length_nil, Nat.zero_add, Nat.reduceAdd] at _hv _k1); subst _hv; generalize x 2 = _y at _hu hK ⊢; subst _hu
      go_simp
      refine Calls.mono (houseCheck houseHist1 ((HI.out V (g3.trans (hV.mono g3.size))).with_ (Below.refl _ _) _ks _k1 _k2) yks yk1 yk2) ?_
      rintro e v1 ⟨v, rfl, hv, hb⟩
      exact hK.out _ _ hv hb
    refine StepsF.cons (fun x V hV hp K hK => ?_) ?_
    · have _e := depsAll_get hp 4 (by kernel_rfl); change x 4 = _ at _e; generalize x 4 = _y at _e hK ⊢; subst _e
      go_simp
      exact hK.out _ _ rfl (Below.refl _ _)
    exact StepsF.nil
  intro x v4 hV hall
  have g4 : Below W.heap.size W v4 := g3.trans (hV.mono g3.size)
  have _e := hall 5 (by decide)
  change x 5 = _ at _e
  generalize x 5 = _y at _e ⊢
  subst _e
  have D4 := Lib.hid hV
  clear hV hall
  go_wp2_with fail
  -- region 5
  refine wp_region_facts (F := ?_) [Fact.eq (.agg #[.slice Ab houseX.bars.length cb, .slice (some ⟨sb, so, none⟩) houseX.steps.length cs]), Fact.ints [0, 0], Fact.second (.int .i64 1) (Fact.ints [0, 0]), Fact.ints [160, 560, 415], Fact.eq (.int .i64 16), Fact.eq (.int .i64 16)] (by kernel_rfl) (by kernel_rfl) (by kernel_rfl) (by intro x; simp only [List.map_cons, List.map_nil, putAll, Act.put, List.setIfInBounds_toArray, List.set_cons_zero, List.set_cons_succ, Nat.zero_add, Nat.reduceAdd]; rfl) ?_ ?_
  · refine StepsF.cons (fun x V hV hp K hK => ?_) ?_
    · obtain ⟨_c0, _c1⟩ := HS.out V (g4.trans (hV.mono g4.size))
      go_simp
      exact hK.out _ _ rfl (Below.refl _ _)
    refine StepsF.cons (fun x V hV hp K hK => ?_) ?_
    · go_simp
      exact hK.out _ _ (ints_box (l := [0, 0]) (Box.new _ _ _) (by simp) (by decide)) ((Below.refl _ _).alloc (Nat.le_refl _) _)
    refine StepsF.cons (fun x V hV hp K hK => ?_) ?_
    · obtain ⟨zA, zc, _hv, zk1, zk2, zks⟩ := depsAll_get hp 1 (by kernel_rfl); (try simp only [List.length_cons, List.length_nil, Nat.zero_add, Nat.reduceAdd] at _hv zk1); generalize x 1 = _y at _hv hK ⊢; subst _hv
      go_simp
      refine (recipe_laid _ _ _ _ _).mono ?_
      rintro e v1 ⟨rfl, hb⟩
      exact hK.out _ _ ⟨_, rfl, Fact.keep (Fact.ints [0, 0]) _ _ _ hb ⟨zA, zc, rfl, zk1, zk2, zks⟩⟩ hb
    refine StepsF.cons (fun x V hV hp K hK => ?_) ?_
    · go_simp
      exact hK.out _ _ (ints_box (l := [160, 560, 415]) (Box.new _ _ _) (by simp) (by decide)) ((Below.refl _ _).alloc (Nat.le_refl _) _)
    refine StepsF.cons (fun x V hV hp K hK => ?_) ?_
    · have _e := depsAll_get hp 0 (by kernel_rfl); change x 0 = _ at _e; generalize x 0 = _y at _e hK ⊢; subst _e
      obtain ⟨yA, yc, _hv, yk1, yk2, yks⟩ := depsAll_get hp 3 (by kernel_rfl); (try simp only [List.length_cons, List.length_nil, Nat.zero_add, Nat.reduceAdd] at _hv yk1); generalize x 3 = _y at _hv hK ⊢; subst _hv
      obtain ⟨_u, _hu, _A, _c, _hv, _k1, _k2, _ks⟩ := depsAll_get hp 2 (by kernel_rfl); (try simp only [List.length_cons, List.length_nil, Nat.zero_add, Nat.reduceAdd] at _hv _k1); subst _hv; generalize x 2 = _y at _hu hK ⊢; subst _hu
      go_simp
      refine Calls.mono (houseCheck houseHist2 ((HI.out V (g4.trans (hV.mono g4.size))).with_ (Below.refl _ _) _ks _k1 _k2) yks yk1 yk2) ?_
      rintro e v1 ⟨v, rfl, hv, hb⟩
      exact hK.out _ _ hv hb
    refine StepsF.cons (fun x V hV hp K hK => ?_) ?_
    · have _e := depsAll_get hp 4 (by kernel_rfl); change x 4 = _ at _e; generalize x 4 = _y at _e hK ⊢; subst _e
      go_simp
      exact hK.out _ _ rfl (Below.refl _ _)
    exact StepsF.nil
  intro x v5 hV hall
  have g5 : Below W.heap.size W v5 := g4.trans (hV.mono g4.size)
  have _e := hall 5 (by decide)
  change x 5 = _ at _e
  generalize x 5 = _y at _e ⊢
  subst _e
  have D5 := Lib.hid hV
  clear hV hall
  go_wp2_with fail
  -- region 6
  refine wp_region_facts (F := ?_) [Fact.eq (.agg #[.slice Ab houseX.bars.length cb, .slice (some ⟨sb, so, none⟩) houseX.steps.length cs]), Fact.ints [0, 0], Fact.second (.int .i64 1) (Fact.ints [0, 0]), Fact.eq (.agg #[.int .i64 410, .int .i64 420]), Fact.res (Fact.ints [180, 550, 410]) 0, Fact.res (Fact.ints [180, 550, 410]) 0, Fact.ints [180, 550, 410], Fact.eq (.int .i64 0), Fact.ints [180, 550, 410], Fact.eq (.int .i64 0)] (by kernel_rfl) (by kernel_rfl) (by kernel_rfl) (by intro x; simp only [List.map_cons, List.map_nil, putAll, Act.put, List.setIfInBounds_toArray, List.set_cons_zero, List.set_cons_succ, Nat.zero_add, Nat.reduceAdd]; rfl) ?_ ?_
  · refine StepsF.cons (fun x V hV hp K hK => ?_) ?_
    · obtain ⟨_c0, _c1⟩ := HS.out V (g5.trans (hV.mono g5.size))
      go_simp
      exact hK.out _ _ rfl (Below.refl _ _)
    refine StepsF.cons (fun x V hV hp K hK => ?_) ?_
    · go_simp
      exact hK.out _ _ (ints_box (l := [0, 0]) (Box.new _ _ _) (by simp) (by decide)) ((Below.refl _ _).alloc (Nat.le_refl _) _)
    refine StepsF.cons (fun x V hV hp K hK => ?_) ?_
    · obtain ⟨zA, zc, _hv, zk1, zk2, zks⟩ := depsAll_get hp 1 (by kernel_rfl); (try simp only [List.length_cons, List.length_nil, Nat.zero_add, Nat.reduceAdd] at _hv zk1); generalize x 1 = _y at _hv hK ⊢; subst _hv
      go_simp
      refine (recipe_laid _ _ _ _ _).mono ?_
      rintro e v1 ⟨rfl, hb⟩
      exact hK.out _ _ ⟨_, rfl, Fact.keep (Fact.ints [0, 0]) _ _ _ hb ⟨zA, zc, rfl, zk1, zk2, zks⟩⟩ hb
    refine StepsF.cons (fun x V hV hp K hK => ?_) ?_
    · obtain ⟨_c0, _c1⟩ := HM.out V (g5.trans (hV.mono g5.size))
      go_simp
      exact hK.out _ _ rfl (Below.refl _ _)
    refine StepsF.cons (fun x V hV hp K hK => ?_) ?_
    · have _e := depsAll_get hp 0 (by kernel_rfl); change x 0 = _ at _e; generalize x 0 = _y at _e hK ⊢; subst _e
      have _e := depsAll_get hp 3 (by kernel_rfl); change x 3 = _ at _e; generalize x 3 = _y at _e hK ⊢; subst _e
      obtain ⟨_u, _hu, _A, _c, _hv, _k1, _k2, _ks⟩ := depsAll_get hp 2 (by kernel_rfl); (try simp only [List.length_cons, List.length_nil, Nat.zero_add, Nat.reduceAdd] at _hv _k1); subst _hv; generalize x 2 = _y at _hu hK ⊢; subst _hu
      go_simp
      refine Calls.mono (houseHistory_read ((HI.out V (g5.trans (hV.mono g5.size))).with_ (Below.refl _ _) _ks _k1 _k2)) ?_
      rintro e v1 ⟨v, rfl, hv, hb⟩
      exact hK.out _ _ hv hb
    refine StepsF.cons (fun x V hV hp K hK => ?_) ?_
    · obtain ⟨_u, _hu, _H⟩ := depsAll_get hp 4 (by kernel_rfl); replace _H := Lib.hid _H; generalize x 4 = _y at _hu hK ⊢; subst _hu
      go_simp
      exact hK.out _ _ ⟨_u, rfl, _H.out.1, _H.out.2⟩ (Below.refl _ _)
    refine StepsF.cons (fun x V hV hp K hK => ?_) ?_
    · obtain ⟨_u, _hu, _H⟩ := depsAll_get hp 5 (by kernel_rfl); replace _H := Lib.hid _H; generalize x 5 = _y at _hu hK ⊢; subst _hu
      go_simp
      exact hK.out _ _ (_H.out.1 rfl) (Below.refl _ _)
    refine StepsF.cons (fun x V hV hp K hK => ?_) ?_
    · obtain ⟨_u, _hu, _H⟩ := depsAll_get hp 5 (by kernel_rfl); replace _H := Lib.hid _H; generalize x 5 = _y at _hu hK ⊢; subst _hu
      go_simp
      exact hK.out _ _ rfl (Below.refl _ _)
    refine StepsF.cons (fun x V hV hp K hK => ?_) ?_
    · have _p := depsAll_get hp 6 (by kernel_rfl)
      go_simp
      exact hK.out _ _ _p (Below.refl _ _)
    refine StepsF.cons (fun x V hV hp K hK => ?_) ?_
    · have _e := depsAll_get hp 7 (by kernel_rfl); change x 7 = _ at _e; generalize x 7 = _y at _e hK ⊢; subst _e
      go_simp
      exact hK.out _ _ rfl (Below.refl _ _)
    exact StepsF.nil
  intro x v6 hV hall
  have g6 : Below W.heap.size W v6 := g5.trans (hV.mono g5.size)
  have _e := hall 9 (by decide)
  change x 9 = _ at _e
  generalize x 9 = _y at _e ⊢
  subst _e
  have p6 := hall 8 (by decide)
  generalize x 8 = r6 at p6 ⊢
  have P6 := Lib.hid p6
  clear p6
  have D6 := Lib.hid hV
  clear hV hall
  go_wp2_with fail
  -- region 7
  refine wp_region_facts (F := ?_) [Fact.eq (.agg #[.slice Ab houseX.bars.length cb, .slice (some ⟨sb, so, none⟩) houseX.steps.length cs]), Fact.ints [0, 0], Fact.second (.int .i64 0) (Fact.ints [0, 0]), Fact.eq (.agg #[.int .i64 410, .int .i64 420]), Fact.res (Fact.any) 17, Fact.res (Fact.any) 17, Fact.any, Fact.eq (.int .i64 17), Fact.any, Fact.eq (.int .i64 17)] (by kernel_rfl) (by kernel_rfl) (by kernel_rfl) (by intro x; simp only [List.map_cons, List.map_nil, putAll, Act.put, List.setIfInBounds_toArray, List.set_cons_zero, List.set_cons_succ, Nat.zero_add, Nat.reduceAdd]; rfl) ?_ ?_
  · refine StepsF.cons (fun x V hV hp K hK => ?_) ?_
    · obtain ⟨_c0, _c1⟩ := HS.out V (g6.trans (hV.mono g6.size))
      go_simp
      exact hK.out _ _ rfl (Below.refl _ _)
    refine StepsF.cons (fun x V hV hp K hK => ?_) ?_
    · go_simp
      exact hK.out _ _ (ints_box (l := [0, 0]) (Box.new _ _ _) (by simp) (by decide)) ((Below.refl _ _).alloc (Nat.le_refl _) _)
    refine StepsF.cons (fun x V hV hp K hK => ?_) ?_
    · obtain ⟨zA, zc, _hv, zk1, zk2, zks⟩ := depsAll_get hp 1 (by kernel_rfl); (try simp only [List.length_cons, List.length_nil, Nat.zero_add, Nat.reduceAdd] at _hv zk1); generalize x 1 = _y at _hv hK ⊢; subst _hv
      go_simp
      refine (recipe_laid _ _ _ _ _).mono ?_
      rintro e v1 ⟨rfl, hb⟩
      exact hK.out _ _ ⟨_, rfl, Fact.keep (Fact.ints [0, 0]) _ _ _ hb ⟨zA, zc, rfl, zk1, zk2, zks⟩⟩ hb
    refine StepsF.cons (fun x V hV hp K hK => ?_) ?_
    · obtain ⟨_c0, _c1⟩ := HM.out V (g6.trans (hV.mono g6.size))
      go_simp
      exact hK.out _ _ rfl (Below.refl _ _)
    refine StepsF.cons (fun x V hV hp K hK => ?_) ?_
    · have _e := depsAll_get hp 0 (by kernel_rfl); change x 0 = _ at _e; generalize x 0 = _y at _e hK ⊢; subst _e
      have _e := depsAll_get hp 3 (by kernel_rfl); change x 3 = _ at _e; generalize x 3 = _y at _e hK ⊢; subst _e
      obtain ⟨_u, _hu, _A, _c, _hv, _k1, _k2, _ks⟩ := depsAll_get hp 2 (by kernel_rfl); (try simp only [List.length_cons, List.length_nil, Nat.zero_add, Nat.reduceAdd] at _hv _k1); subst _hv; generalize x 2 = _y at _hu hK ⊢; subst _hu
      go_simp
      refine Calls.mono (houseHistory0_read ((HI.out V (g6.trans (hV.mono g6.size))).with_ (Below.refl _ _) _ks _k1 _k2)) ?_
      rintro e v1 ⟨v, rfl, hv, hb⟩
      exact hK.out _ _ hv hb
    refine StepsF.cons (fun x V hV hp K hK => ?_) ?_
    · obtain ⟨_u, _hu, _H⟩ := depsAll_get hp 4 (by kernel_rfl); replace _H := Lib.hid _H; generalize x 4 = _y at _hu hK ⊢; subst _hu
      go_simp
      exact hK.out _ _ ⟨_u, rfl, _H.out.1, _H.out.2⟩ (Below.refl _ _)
    refine StepsF.cons (fun x V hV hp K hK => ?_) ?_
    · obtain ⟨_u, _hu, _H⟩ := depsAll_get hp 5 (by kernel_rfl); replace _H := Lib.hid _H; generalize x 5 = _y at _hu hK ⊢; subst _hu
      go_simp
      exact hK.out _ _ (trivial) (Below.refl _ _)
    refine StepsF.cons (fun x V hV hp K hK => ?_) ?_
    · obtain ⟨_u, _hu, _H⟩ := depsAll_get hp 5 (by kernel_rfl); replace _H := Lib.hid _H; generalize x 5 = _y at _hu hK ⊢; subst _hu
      go_simp
      exact hK.out _ _ rfl (Below.refl _ _)
    refine StepsF.cons (fun x V hV hp K hK => ?_) ?_
    · have _p := depsAll_get hp 6 (by kernel_rfl)
      go_simp
      exact hK.out _ _ _p (Below.refl _ _)
    refine StepsF.cons (fun x V hV hp K hK => ?_) ?_
    · have _e := depsAll_get hp 7 (by kernel_rfl); change x 7 = _ at _e; generalize x 7 = _y at _e hK ⊢; subst _e
      go_simp
      exact hK.out _ _ rfl (Below.refl _ _)
    exact StepsF.nil
  intro x v7 hV hall
  have g7 : Below W.heap.size W v7 := g6.trans (hV.mono g6.size)
  have _e := hall 9 (by decide)
  change x 9 = _ at _e
  generalize x 9 = _y at _e ⊢
  subst _e
  have p7 := hall 8 (by decide)
  generalize x 8 = r7 at p7 ⊢
  have P7 := Lib.hid p7
  clear p7
  have D7 := Lib.hid hV
  clear hV hall
  go_wp2_with fail
  -- region 8
  refine wp_region_facts (F := ?_) [Fact.eq (.agg #[.slice Ab houseX.bars.length cb, .slice (some ⟨sb, so, none⟩) houseX.steps.length cs]), Fact.ints [0, 0], Fact.second (.int .i64 1) (Fact.ints [0, 0]), Fact.eq (.agg #[.int .i64 410, .int .i64 420]), Fact.res (Fact.rgs [(180, 300), (550, 600), (410, 420)]) 0, Fact.res (Fact.rgs [(180, 300), (550, 600), (410, 420)]) 0, Fact.rgs [(180, 300), (550, 600), (410, 420)], Fact.eq (.int .i64 0), Fact.rgs [(180, 300), (550, 600), (410, 420)], Fact.eq (.int .i64 0)] (by kernel_rfl) (by kernel_rfl) (by kernel_rfl) (by intro x; simp only [List.map_cons, List.map_nil, putAll, Act.put, List.setIfInBounds_toArray, List.set_cons_zero, List.set_cons_succ, Nat.zero_add, Nat.reduceAdd]; rfl) ?_ ?_
  · refine StepsF.cons (fun x V hV hp K hK => ?_) ?_
    · obtain ⟨_c0, _c1⟩ := HS.out V (g7.trans (hV.mono g7.size))
      go_simp
      exact hK.out _ _ rfl (Below.refl _ _)
    refine StepsF.cons (fun x V hV hp K hK => ?_) ?_
    · go_simp
      exact hK.out _ _ (ints_box (l := [0, 0]) (Box.new _ _ _) (by simp) (by decide)) ((Below.refl _ _).alloc (Nat.le_refl _) _)
    refine StepsF.cons (fun x V hV hp K hK => ?_) ?_
    · obtain ⟨zA, zc, _hv, zk1, zk2, zks⟩ := depsAll_get hp 1 (by kernel_rfl); (try simp only [List.length_cons, List.length_nil, Nat.zero_add, Nat.reduceAdd] at _hv zk1); generalize x 1 = _y at _hv hK ⊢; subst _hv
      go_simp
      refine (recipe_laid _ _ _ _ _).mono ?_
      rintro e v1 ⟨rfl, hb⟩
      exact hK.out _ _ ⟨_, rfl, Fact.keep (Fact.ints [0, 0]) _ _ _ hb ⟨zA, zc, rfl, zk1, zk2, zks⟩⟩ hb
    refine StepsF.cons (fun x V hV hp K hK => ?_) ?_
    · obtain ⟨_c0, _c1⟩ := HM.out V (g7.trans (hV.mono g7.size))
      go_simp
      exact hK.out _ _ rfl (Below.refl _ _)
    refine StepsF.cons (fun x V hV hp K hK => ?_) ?_
    · have _e := depsAll_get hp 0 (by kernel_rfl); change x 0 = _ at _e; generalize x 0 = _y at _e hK ⊢; subst _e
      have _e := depsAll_get hp 3 (by kernel_rfl); change x 3 = _ at _e; generalize x 3 = _y at _e hK ⊢; subst _e
      obtain ⟨_u, _hu, _A, _c, _hv, _k1, _k2, _ks⟩ := depsAll_get hp 2 (by kernel_rfl); (try simp only [List.length_cons, List.length_nil, Nat.zero_add, Nat.reduceAdd] at _hv _k1); subst _hv; generalize x 2 = _y at _hu hK ⊢; subst _hu
      go_simp
      refine Calls.mono (houseHad_read ((HI.out V (g7.trans (hV.mono g7.size))).with_ (Below.refl _ _) _ks _k1 _k2)) ?_
      rintro e v1 ⟨v, rfl, hv, hb⟩
      exact hK.out _ _ hv hb
    refine StepsF.cons (fun x V hV hp K hK => ?_) ?_
    · obtain ⟨_u, _hu, _H⟩ := depsAll_get hp 4 (by kernel_rfl); replace _H := Lib.hid _H; generalize x 4 = _y at _hu hK ⊢; subst _hu
      go_simp
      exact hK.out _ _ ⟨_u, rfl, _H.out.1, _H.out.2⟩ (Below.refl _ _)
    refine StepsF.cons (fun x V hV hp K hK => ?_) ?_
    · obtain ⟨_u, _hu, _H⟩ := depsAll_get hp 5 (by kernel_rfl); replace _H := Lib.hid _H; generalize x 5 = _y at _hu hK ⊢; subst _hu
      go_simp
      exact hK.out _ _ (_H.out.1 rfl) (Below.refl _ _)
    refine StepsF.cons (fun x V hV hp K hK => ?_) ?_
    · obtain ⟨_u, _hu, _H⟩ := depsAll_get hp 5 (by kernel_rfl); replace _H := Lib.hid _H; generalize x 5 = _y at _hu hK ⊢; subst _hu
      go_simp
      exact hK.out _ _ rfl (Below.refl _ _)
    refine StepsF.cons (fun x V hV hp K hK => ?_) ?_
    · have _p := depsAll_get hp 6 (by kernel_rfl)
      go_simp
      exact hK.out _ _ _p (Below.refl _ _)
    refine StepsF.cons (fun x V hV hp K hK => ?_) ?_
    · have _e := depsAll_get hp 7 (by kernel_rfl); change x 7 = _ at _e; generalize x 7 = _y at _e hK ⊢; subst _e
      go_simp
      exact hK.out _ _ rfl (Below.refl _ _)
    exact StepsF.nil
  intro x v8 hV hall
  have g8 : Below W.heap.size W v8 := g7.trans (hV.mono g7.size)
  have _e := hall 9 (by decide)
  change x 9 = _ at _e
  generalize x 9 = _y at _e ⊢
  subst _e
  have p8 := hall 8 (by decide)
  generalize x 8 = r8 at p8 ⊢
  have P8 := Lib.hid p8
  clear p8
  have D8 := Lib.hid hV
  clear hV hall
  obtain ⟨a0, a1⟩ := HS.out v8 g8
  obtain ⟨b0, b1⟩ := HM.out v8 g8
  go_wp2_with (first
    | (go_at_call 33; refine Calls.mono (houseBars_read (HI.out _ g8)) ?_; rintro e v9 ⟨_, rfl, ⟨r9, rfl, p9, -⟩, hb⟩; have g9 := g8.trans (hb.mono (Below.size g8)); have P9 := Lib.hid (p9 rfl); clear p9; have D9 := Lib.hid hb; clear hb; obtain ⟨a0, a1⟩ := HS.out _ g9; obtain ⟨b0, b1⟩ := HM.out _ g9)
    | (go_at_call 35; refine Calls.mono (houseWays_read (HI.out _ g9)) ?_; rintro e v10 ⟨_, rfl, ⟨r10, rfl, p10, -⟩, hb⟩; have g10 := g9.trans (hb.mono (Below.size g9)); have P10 := Lib.hid (p10 rfl); clear p10; have D10 := Lib.hid hb; clear hb; obtain ⟨a0, a1⟩ := HS.out _ g10; obtain ⟨b0, b1⟩ := HM.out _ g10)
    | (go_at_call 37; refine Calls.mono (houseCount_read (HI.out _ g10)) ?_; rintro e v11 ⟨rfl, hb⟩; have g11 := g10.trans (hb.mono (Below.size g10)); have D11 := Lib.hid hb; clear hb; obtain ⟨a0, a1⟩ := HS.out _ g11; obtain ⟨b0, b1⟩ := HM.out _ g11)
    | (go_at_call 41; refine Calls.mono (houseAsk_read (HI.out _ g11)) ?_; rintro e v12 ⟨rfl, hb⟩; have g12 := g11.trans (hb.mono (Below.size g11)); have D12 := Lib.hid hb; clear hb; obtain ⟨a0, a1⟩ := HS.out _ g12; obtain ⟨b0, b1⟩ := HM.out _ g12))
  have K3 : Hid (Below v3.heap.size v3 v12) := Lib.hid (below_on (below_on (below_on (below_on (below_on (below_on (below_on (below_on D4.out D5.out) D6.out) D7.out) D8.out) D9.out) D10.out) D11.out) D12.out)
  have K6 : Hid (Below v6.heap.size v6 v12) := Lib.hid (below_on (below_on (below_on (below_on (below_on D7.out D8.out) D9.out) D10.out) D11.out) D12.out)
  have K8 : Hid (Below v8.heap.size v8 v12) := Lib.hid (below_on (below_on (below_on D9.out D10.out) D11.out) D12.out)
  have K9 : Hid (Below v9.heap.size v9 v12) := Lib.hid (below_on (below_on D10.out D11.out) D12.out)
  have K10 : Hid (Below v10.heap.size v10 v12) := Lib.hid (below_on D11.out D12.out)
  clear D3 D4 D5 D6 D7 D8 D9 D10 D11 D12 a0 a1 b0 b1
  -- region 15
  refine wp_region_facts (F := ?_) [Fact.eq (.agg #[.int .i64 280, .int .i64 400]), Fact.eq (.agg #[.int .i64 280, .int .i64 400]), Fact.eq (.bool true), Fact.eq (.bool true), Fact.rgs [(150, 300), (400, 600), (200, 480)], Fact.eq (.agg #[.int .i64 150, .int .i64 300]), Fact.eq (.agg #[.int .i64 400, .int .i64 600]), Fact.eq (.agg #[.int .i64 200, .int .i64 480]), Fact.rgs [(150, 300), (400, 600), (200, 480)], Fact.eq (.bool true), Fact.eq (.bool true), Fact.eq (.bool true), Fact.eq (.agg #[.slice Ab houseX.bars.length cb, .slice (some ⟨sb, so, none⟩) houseX.steps.length cs]), Fact.ints [0, 0], Fact.second (.int .i64 1) (Fact.ints [0, 0]), Fact.ints [180, 550, 410], Fact.eq (.agg #[.int .i64 410, .int .i64 420]), Fact.eq (.bool true), Fact.eq (.bool true), Fact.eq (.bool true), Fact.rgs [(180, 300), (550, 600), (410, 420)], Fact.eq (.agg #[.int .i64 180, .int .i64 300]), Fact.eq (.agg #[.int .i64 550, .int .i64 600]), Fact.eq (.agg #[.int .i64 410, .int .i64 420]), Fact.rgs [(180, 300), (550, 600), (410, 420)], Fact.eq (.bool true), Fact.eq (.bool true), Fact.eq (.bool true), Fact.ints [0, 1], Fact.ints [0, 1], Fact.eq (.bool true), Fact.eq (.bool true), Fact.eq (.bool true), Fact.lists [[0, 1], [0]], Fact.ints [0, 1], Fact.ints [0], Fact.lists [[0, 1], [0]], Fact.eq (.bool true), Fact.eq (.bool true), Fact.eq (.bool true), Fact.eq (.int .i64 (3)), Fact.eq (.bool true), Fact.eq (.bool true), Fact.eq (.bool true), Fact.eq (.int .i64 (-1)), Fact.eq (.bool true), Fact.eq (.bool true), Fact.eq (.bool true), Fact.eq (.int .i64 (2)), Fact.eq (.bool true), Fact.eq (.bool true), Fact.eq (.bool true)] (by kernel_rfl) (by kernel_rfl) (by kernel_rfl) (by intro x; simp only [List.map_cons, List.map_nil, putAll, Act.put, List.setIfInBounds_toArray, List.set_cons_zero, List.set_cons_succ, Nat.zero_add, Nat.reduceAdd]; rfl) ?_ ?_
  · refine StepsF.cons (fun x V hV hp K hK => ?_) ?_
    · obtain ⟨_c0, _c1⟩ := HA.out V (g12.trans (hV.mono g12.size))
      go_simp
      exact hK.out _ _ rfl (Below.refl _ _)
    refine StepsF.cons (fun x V hV hp K hK => ?_) ?_
    · go_simp
      refine Calls.mono (rg_any 280 400 _) ?_
      rintro e v1 ⟨rfl, hb⟩
      exact hK.out _ _ rfl hb
    refine StepsF.cons (fun x V hV hp K hK => ?_) ?_
    · have _e := depsAll_get hp 0 (by kernel_rfl); change x 0 = _ at _e; generalize x 0 = _y at _e hK ⊢; subst _e
      have _e := depsAll_get hp 1 (by kernel_rfl); change x 1 = _ at _e; generalize x 1 = _y at _e hK ⊢; subst _e
      go_simp
      exact hK.out _ _ rfl (Below.refl _ _)
    refine StepsF.cons (fun x V hV hp K hK => ?_) ?_
    · have _e := depsAll_get hp 2 (by kernel_rfl); change x 2 = _ at _e; generalize x 2 = _y at _e hK ⊢; subst _e
      go_simp
      exact hK.out _ _ rfl (Below.refl _ _)
    refine StepsF.cons (fun x V hV hp K hK => ?_) ?_
    · have _e := depsAll_get hp 3 (by kernel_rfl); change x 3 = _ at _e; generalize x 3 = _y at _e hK ⊢; subst _e
      go_simp
      exact hK.out _ _ (Fact.keep (Fact.rgs [(150, 300), (400, 600), (200, 480)]) _ _ _ ((K3.out).trans (hV.mono (K3.out).size)) P3.out) (Below.refl _ _)
    refine StepsF.cons (fun x V hV hp K hK => ?_) ?_
    · have _e := depsAll_get hp 3 (by kernel_rfl); change x 3 = _ at _e; generalize x 3 = _y at _e hK ⊢; subst _e
      go_simp
      refine Calls.mono (rg_any 150 300 _) ?_
      rintro e v1 ⟨rfl, hb⟩
      exact hK.out _ _ rfl hb
    refine StepsF.cons (fun x V hV hp K hK => ?_) ?_
    · have _e := depsAll_get hp 3 (by kernel_rfl); change x 3 = _ at _e; generalize x 3 = _y at _e hK ⊢; subst _e
      go_simp
      refine Calls.mono (rg_any 400 600 _) ?_
      rintro e v1 ⟨rfl, hb⟩
      exact hK.out _ _ rfl hb
    refine StepsF.cons (fun x V hV hp K hK => ?_) ?_
    · have _e := depsAll_get hp 3 (by kernel_rfl); change x 3 = _ at _e; generalize x 3 = _y at _e hK ⊢; subst _e
      go_simp
      refine Calls.mono (rg_any 200 480 _) ?_
      rintro e v1 ⟨rfl, hb⟩
      exact hK.out _ _ rfl hb
    refine StepsF.cons (fun x V hV hp K hK => ?_) ?_
    · have _e := depsAll_get hp 3 (by kernel_rfl); change x 3 = _ at _e; generalize x 3 = _y at _e hK ⊢; subst _e
      have _e := depsAll_get hp 5 (by kernel_rfl); change x 5 = _ at _e; generalize x 5 = _y at _e hK ⊢; subst _e
      have _e := depsAll_get hp 6 (by kernel_rfl); change x 6 = _ at _e; generalize x 6 = _y at _e hK ⊢; subst _e
      have _e := depsAll_get hp 7 (by kernel_rfl); change x 7 = _ at _e; generalize x 7 = _y at _e hK ⊢; subst _e
      go_simp
      exact hK.out _ _ (rgs_box (l := [(150, 300), (400, 600), (200, 480)]) (Box.new _ _ _) (by simp) (by decide)) ((Below.refl _ _).alloc (Nat.le_refl _) _)
    refine StepsF.cons (fun x V hV hp K hK => ?_) ?_
    · have _e := depsAll_get hp 3 (by kernel_rfl); change x 3 = _ at _e; generalize x 3 = _y at _e hK ⊢; subst _e
      have _p1 := depsAll_get hp 4 (by kernel_rfl)
      have _p2 := depsAll_get hp 8 (by kernel_rfl)
      generalize x 4 = _y1 at _p1 hK ⊢
      generalize x 8 = _y2 at _p2 hK ⊢
      have HP := Lib.hid (And.intro _p1 _p2)
      clear _p1 _p2
      go_simp
      refine Calls.mono (ranges_same HP.out.1 HP.out.2) ?_
      rintro e v1 ⟨rfl, hb⟩
      exact hK.out _ _ rfl hb
    refine StepsF.cons (fun x V hV hp K hK => ?_) ?_
    · have _e := depsAll_get hp 3 (by kernel_rfl); change x 3 = _ at _e; generalize x 3 = _y at _e hK ⊢; subst _e
      have _e := depsAll_get hp 9 (by kernel_rfl); change x 9 = _ at _e; generalize x 9 = _y at _e hK ⊢; subst _e
      go_simp
      exact hK.out _ _ rfl (Below.refl _ _)
    refine StepsF.cons (fun x V hV hp K hK => ?_) ?_
    · have _e := depsAll_get hp 10 (by kernel_rfl); change x 10 = _ at _e; generalize x 10 = _y at _e hK ⊢; subst _e
      go_simp
      exact hK.out _ _ rfl (Below.refl _ _)
    refine StepsF.cons (fun x V hV hp K hK => ?_) ?_
    · have _e := depsAll_get hp 11 (by kernel_rfl); change x 11 = _ at _e; generalize x 11 = _y at _e hK ⊢; subst _e
      obtain ⟨_c0, _c1⟩ := HS.out V (g12.trans (hV.mono g12.size))
      go_simp
      exact hK.out _ _ rfl (Below.refl _ _)
    refine StepsF.cons (fun x V hV hp K hK => ?_) ?_
    · have _e := depsAll_get hp 11 (by kernel_rfl); change x 11 = _ at _e; generalize x 11 = _y at _e hK ⊢; subst _e
      go_simp
      exact hK.out _ _ (ints_box (l := [0, 0]) (Box.new _ _ _) (by simp) (by decide)) ((Below.refl _ _).alloc (Nat.le_refl _) _)
    refine StepsF.cons (fun x V hV hp K hK => ?_) ?_
    · have _e := depsAll_get hp 11 (by kernel_rfl); change x 11 = _ at _e; generalize x 11 = _y at _e hK ⊢; subst _e
      obtain ⟨zA, zc, _hv, zk1, zk2, zks⟩ := depsAll_get hp 13 (by kernel_rfl); (try simp only [List.length_cons, List.length_nil, Nat.zero_add, Nat.reduceAdd] at _hv zk1); generalize x 13 = _y at _hv hK ⊢; subst _hv
      go_simp
      refine (recipe_laid _ _ _ _ _).mono ?_
      rintro e v1 ⟨rfl, hb⟩
      exact hK.out _ _ ⟨_, rfl, Fact.keep (Fact.ints [0, 0]) _ _ _ hb ⟨zA, zc, rfl, zk1, zk2, zks⟩⟩ hb
    refine StepsF.cons (fun x V hV hp K hK => ?_) ?_
    · have _e := depsAll_get hp 11 (by kernel_rfl); change x 11 = _ at _e; generalize x 11 = _y at _e hK ⊢; subst _e
      go_simp
      exact hK.out _ _ (Fact.keep (Fact.ints [180, 550, 410]) _ _ _ ((K6.out).trans (hV.mono (K6.out).size)) P6.out) (Below.refl _ _)
    refine StepsF.cons (fun x V hV hp K hK => ?_) ?_
    · have _e := depsAll_get hp 11 (by kernel_rfl); change x 11 = _ at _e; generalize x 11 = _y at _e hK ⊢; subst _e
      obtain ⟨_c0, _c1⟩ := HM.out V (g12.trans (hV.mono g12.size))
      go_simp
      exact hK.out _ _ rfl (Below.refl _ _)
    refine StepsF.cons (fun x V hV hp K hK => ?_) ?_
    · have _e := depsAll_get hp 11 (by kernel_rfl); change x 11 = _ at _e; generalize x 11 = _y at _e hK ⊢; subst _e
      have _e := depsAll_get hp 12 (by kernel_rfl); change x 12 = _ at _e; generalize x 12 = _y at _e hK ⊢; subst _e
      have _e := depsAll_get hp 16 (by kernel_rfl); change x 16 = _ at _e; generalize x 16 = _y at _e hK ⊢; subst _e
      obtain ⟨_u, _hu, _A, _c, _hv, _k1, _k2, _ks⟩ := depsAll_get hp 14 (by kernel_rfl); (try simp only [List.length_cons, List.length_nil, Nat.zero_add, Nat.reduceAdd] at _hv _k1); subst _hv; generalize x 14 = _y at _hu hK ⊢; subst _hu
      obtain ⟨yA, yc, _hv, yk1, yk2, yks⟩ := depsAll_get hp 15 (by kernel_rfl); (try simp only [List.length_cons, List.length_nil, Nat.zero_add, Nat.reduceAdd] at _hv yk1); generalize x 15 = _y at _hv hK ⊢; subst _hv
      go_simp
      refine Calls.mono (houseAgrees ((HI.out V (g12.trans (hV.mono g12.size))).with_ (Below.refl _ _) _ks _k1 _k2) yks yk1 yk2) ?_
      rintro e v1 ⟨rfl, hb⟩
      exact hK.out _ _ rfl hb
    refine StepsF.cons (fun x V hV hp K hK => ?_) ?_
    · have _e := depsAll_get hp 11 (by kernel_rfl); change x 11 = _ at _e; generalize x 11 = _y at _e hK ⊢; subst _e
      have _e := depsAll_get hp 17 (by kernel_rfl); change x 17 = _ at _e; generalize x 17 = _y at _e hK ⊢; subst _e
      go_simp
      exact hK.out _ _ rfl (Below.refl _ _)
    refine StepsF.cons (fun x V hV hp K hK => ?_) ?_
    · have _e := depsAll_get hp 18 (by kernel_rfl); change x 18 = _ at _e; generalize x 18 = _y at _e hK ⊢; subst _e
      go_simp
      exact hK.out _ _ rfl (Below.refl _ _)
    refine StepsF.cons (fun x V hV hp K hK => ?_) ?_
    · have _e := depsAll_get hp 19 (by kernel_rfl); change x 19 = _ at _e; generalize x 19 = _y at _e hK ⊢; subst _e
      go_simp
      exact hK.out _ _ (Fact.keep (Fact.rgs [(180, 300), (550, 600), (410, 420)]) _ _ _ ((K8.out).trans (hV.mono (K8.out).size)) P8.out) (Below.refl _ _)
    refine StepsF.cons (fun x V hV hp K hK => ?_) ?_
    · have _e := depsAll_get hp 19 (by kernel_rfl); change x 19 = _ at _e; generalize x 19 = _y at _e hK ⊢; subst _e
      go_simp
      refine Calls.mono (rg_any 180 300 _) ?_
      rintro e v1 ⟨rfl, hb⟩
      exact hK.out _ _ rfl hb
    refine StepsF.cons (fun x V hV hp K hK => ?_) ?_
    · have _e := depsAll_get hp 19 (by kernel_rfl); change x 19 = _ at _e; generalize x 19 = _y at _e hK ⊢; subst _e
      go_simp
      refine Calls.mono (rg_any 550 600 _) ?_
      rintro e v1 ⟨rfl, hb⟩
      exact hK.out _ _ rfl hb
    refine StepsF.cons (fun x V hV hp K hK => ?_) ?_
    · have _e := depsAll_get hp 19 (by kernel_rfl); change x 19 = _ at _e; generalize x 19 = _y at _e hK ⊢; subst _e
      obtain ⟨_c0, _c1⟩ := HM.out V (g12.trans (hV.mono g12.size))
      go_simp
      exact hK.out _ _ rfl (Below.refl _ _)
    refine StepsF.cons (fun x V hV hp K hK => ?_) ?_
    · have _e := depsAll_get hp 19 (by kernel_rfl); change x 19 = _ at _e; generalize x 19 = _y at _e hK ⊢; subst _e
      have _e := depsAll_get hp 21 (by kernel_rfl); change x 21 = _ at _e; generalize x 21 = _y at _e hK ⊢; subst _e
      have _e := depsAll_get hp 22 (by kernel_rfl); change x 22 = _ at _e; generalize x 22 = _y at _e hK ⊢; subst _e
      have _e := depsAll_get hp 23 (by kernel_rfl); change x 23 = _ at _e; generalize x 23 = _y at _e hK ⊢; subst _e
      go_simp
      exact hK.out _ _ (rgs_box (l := [(180, 300), (550, 600), (410, 420)]) (Box.new _ _ _) (by simp) (by decide)) ((Below.refl _ _).alloc (Nat.le_refl _) _)
    refine StepsF.cons (fun x V hV hp K hK => ?_) ?_
    · have _e := depsAll_get hp 19 (by kernel_rfl); change x 19 = _ at _e; generalize x 19 = _y at _e hK ⊢; subst _e
      have _p1 := depsAll_get hp 20 (by kernel_rfl)
      have _p2 := depsAll_get hp 24 (by kernel_rfl)
      generalize x 20 = _y1 at _p1 hK ⊢
      generalize x 24 = _y2 at _p2 hK ⊢
      have HP := Lib.hid (And.intro _p1 _p2)
      clear _p1 _p2
      go_simp
      refine Calls.mono (ranges_same HP.out.1 HP.out.2) ?_
      rintro e v1 ⟨rfl, hb⟩
      exact hK.out _ _ rfl hb
    refine StepsF.cons (fun x V hV hp K hK => ?_) ?_
    · have _e := depsAll_get hp 19 (by kernel_rfl); change x 19 = _ at _e; generalize x 19 = _y at _e hK ⊢; subst _e
      have _e := depsAll_get hp 25 (by kernel_rfl); change x 25 = _ at _e; generalize x 25 = _y at _e hK ⊢; subst _e
      go_simp
      exact hK.out _ _ rfl (Below.refl _ _)
    refine StepsF.cons (fun x V hV hp K hK => ?_) ?_
    · have _e := depsAll_get hp 26 (by kernel_rfl); change x 26 = _ at _e; generalize x 26 = _y at _e hK ⊢; subst _e
      go_simp
      exact hK.out _ _ rfl (Below.refl _ _)
    refine StepsF.cons (fun x V hV hp K hK => ?_) ?_
    · have _e := depsAll_get hp 27 (by kernel_rfl); change x 27 = _ at _e; generalize x 27 = _y at _e hK ⊢; subst _e
      go_simp
      exact hK.out _ _ (Fact.keep (Fact.ints [0, 1]) _ _ _ ((K9.out).trans (hV.mono (K9.out).size)) P9.out) (Below.refl _ _)
    refine StepsF.cons (fun x V hV hp K hK => ?_) ?_
    · have _e := depsAll_get hp 27 (by kernel_rfl); change x 27 = _ at _e; generalize x 27 = _y at _e hK ⊢; subst _e
      go_simp
      exact hK.out _ _ (ints_box (l := [0, 1]) (Box.new _ _ _) (by simp) (by decide)) ((Below.refl _ _).alloc (Nat.le_refl _) _)
    refine StepsF.cons (fun x V hV hp K hK => ?_) ?_
    · have _e := depsAll_get hp 27 (by kernel_rfl); change x 27 = _ at _e; generalize x 27 = _y at _e hK ⊢; subst _e
      have _p1 := depsAll_get hp 28 (by kernel_rfl)
      have _p2 := depsAll_get hp 29 (by kernel_rfl)
      generalize x 28 = _y1 at _p1 hK ⊢
      generalize x 29 = _y2 at _p2 hK ⊢
      have HP := Lib.hid (And.intro _p1 _p2)
      clear _p1 _p2
      go_simp
      refine Calls.mono (ints_same HP.out.1 HP.out.2) ?_
      rintro e v1 ⟨rfl, hb⟩
      exact hK.out _ _ rfl hb
    refine StepsF.cons (fun x V hV hp K hK => ?_) ?_
    · have _e := depsAll_get hp 27 (by kernel_rfl); change x 27 = _ at _e; generalize x 27 = _y at _e hK ⊢; subst _e
      have _e := depsAll_get hp 30 (by kernel_rfl); change x 30 = _ at _e; generalize x 30 = _y at _e hK ⊢; subst _e
      go_simp
      exact hK.out _ _ rfl (Below.refl _ _)
    refine StepsF.cons (fun x V hV hp K hK => ?_) ?_
    · have _e := depsAll_get hp 31 (by kernel_rfl); change x 31 = _ at _e; generalize x 31 = _y at _e hK ⊢; subst _e
      go_simp
      exact hK.out _ _ rfl (Below.refl _ _)
    refine StepsF.cons (fun x V hV hp K hK => ?_) ?_
    · have _e := depsAll_get hp 32 (by kernel_rfl); change x 32 = _ at _e; generalize x 32 = _y at _e hK ⊢; subst _e
      go_simp
      exact hK.out _ _ (Fact.keep (Fact.lists [[0, 1], [0]]) _ _ _ ((K10.out).trans (hV.mono (K10.out).size)) P10.out) (Below.refl _ _)
    refine StepsF.cons (fun x V hV hp K hK => ?_) ?_
    · have _e := depsAll_get hp 32 (by kernel_rfl); change x 32 = _ at _e; generalize x 32 = _y at _e hK ⊢; subst _e
      go_simp
      exact hK.out _ _ (ints_box (l := [0, 1]) (Box.new _ _ _) (by simp) (by decide)) ((Below.refl _ _).alloc (Nat.le_refl _) _)
    refine StepsF.cons (fun x V hV hp K hK => ?_) ?_
    · have _e := depsAll_get hp 32 (by kernel_rfl); change x 32 = _ at _e; generalize x 32 = _y at _e hK ⊢; subst _e
      go_simp
      exact hK.out _ _ (ints_box (l := [0]) (Box.new _ _ _) (by simp) (by decide)) ((Below.refl _ _).alloc (Nat.le_refl _) _)
    refine StepsF.cons (fun x V hV hp K hK => ?_) ?_
    · have _e := depsAll_get hp 32 (by kernel_rfl); change x 32 = _ at _e; generalize x 32 = _y at _e hK ⊢; subst _e
      obtain ⟨yA, yc, _hv, yk1, yk2, yks⟩ := depsAll_get hp 34 (by kernel_rfl); (try simp only [List.length_cons, List.length_nil, Nat.zero_add, Nat.reduceAdd] at _hv yk1); generalize x 34 = _y at _hv hK ⊢; subst _hv
      obtain ⟨zA, zc, _hv, zk1, zk2, zks⟩ := depsAll_get hp 35 (by kernel_rfl); (try simp only [List.length_cons, List.length_nil, Nat.zero_add, Nat.reduceAdd] at _hv zk1); generalize x 35 = _y at _hv hK ⊢; subst _hv
      have _q1 : Ints .i64 V V.heap.size (.slice yA 2 yc) [0, 1] := ⟨yA, yc, rfl, yk1, yk2, yks⟩
      have _q2 : Ints .i64 V V.heap.size (.slice zA 1 zc) [0] := ⟨zA, zc, rfl, zk1, zk2, zks⟩
      have HQ := Lib.hid (And.intro _q1 _q2)
      clear _q1 _q2 yks zks
      go_simp
      have hb : Below V.heap.size V (V.alloc (.cells #[.slice yA 2 yc, .slice zA 1 zc] 40)) := (Below.refl _ _).alloc (Nat.le_refl _) _
      exact hK.out _ _ (lists_box2 (Box.new _ _ _) (Fact.keep (Fact.ints [0, 1]) _ _ _ hb HQ.out.1) (Fact.keep (Fact.ints [0]) _ _ _ hb HQ.out.2)) hb
    refine StepsF.cons (fun x V hV hp K hK => ?_) ?_
    · have _e := depsAll_get hp 32 (by kernel_rfl); change x 32 = _ at _e; generalize x 32 = _y at _e hK ⊢; subst _e
      have _p1 := depsAll_get hp 33 (by kernel_rfl)
      have _p2 := depsAll_get hp 36 (by kernel_rfl)
      generalize x 33 = _y1 at _p1 hK ⊢
      generalize x 36 = _y2 at _p2 hK ⊢
      have HP := Lib.hid (And.intro _p1 _p2)
      clear _p1 _p2
      go_simp
      refine Calls.mono (lists_same HP.out.1 HP.out.2) ?_
      rintro e v1 ⟨rfl, hb⟩
      exact hK.out _ _ rfl hb
    refine StepsF.cons (fun x V hV hp K hK => ?_) ?_
    · have _e := depsAll_get hp 32 (by kernel_rfl); change x 32 = _ at _e; generalize x 32 = _y at _e hK ⊢; subst _e
      have _e := depsAll_get hp 37 (by kernel_rfl); change x 37 = _ at _e; generalize x 37 = _y at _e hK ⊢; subst _e
      go_simp
      exact hK.out _ _ rfl (Below.refl _ _)
    refine StepsF.cons (fun x V hV hp K hK => ?_) ?_
    · have _e := depsAll_get hp 38 (by kernel_rfl); change x 38 = _ at _e; generalize x 38 = _y at _e hK ⊢; subst _e
      go_simp
      exact hK.out _ _ rfl (Below.refl _ _)
    refine StepsF.cons (fun x V hV hp K hK => ?_) ?_
    · have _e := depsAll_get hp 39 (by kernel_rfl); change x 39 = _ at _e; generalize x 39 = _y at _e hK ⊢; subst _e
      go_simp
      exact hK.out _ _ rfl (Below.refl _ _)
    refine StepsF.cons (fun x V hV hp K hK => ?_) ?_
    · have _e := depsAll_get hp 39 (by kernel_rfl); change x 39 = _ at _e; generalize x 39 = _y at _e hK ⊢; subst _e
      have _e := depsAll_get hp 40 (by kernel_rfl); change x 40 = _ at _e; generalize x 40 = _y at _e hK ⊢; subst _e
      go_simp
      exact hK.out _ _ rfl (Below.refl _ _)
    refine StepsF.cons (fun x V hV hp K hK => ?_) ?_
    · have _e := depsAll_get hp 39 (by kernel_rfl); change x 39 = _ at _e; generalize x 39 = _y at _e hK ⊢; subst _e
      have _e := depsAll_get hp 41 (by kernel_rfl); change x 41 = _ at _e; generalize x 41 = _y at _e hK ⊢; subst _e
      go_simp
      exact hK.out _ _ rfl (Below.refl _ _)
    refine StepsF.cons (fun x V hV hp K hK => ?_) ?_
    · have _e := depsAll_get hp 42 (by kernel_rfl); change x 42 = _ at _e; generalize x 42 = _y at _e hK ⊢; subst _e
      go_simp
      exact hK.out _ _ rfl (Below.refl _ _)
    refine StepsF.cons (fun x V hV hp K hK => ?_) ?_
    · have _e := depsAll_get hp 43 (by kernel_rfl); change x 43 = _ at _e; generalize x 43 = _y at _e hK ⊢; subst _e
      go_simp
      exact hK.out _ _ rfl (Below.refl _ _)
    refine StepsF.cons (fun x V hV hp K hK => ?_) ?_
    · have _e := depsAll_get hp 43 (by kernel_rfl); change x 43 = _ at _e; generalize x 43 = _y at _e hK ⊢; subst _e
      have _e := depsAll_get hp 44 (by kernel_rfl); change x 44 = _ at _e; generalize x 44 = _y at _e hK ⊢; subst _e
      go_simp
      exact hK.out _ _ rfl (Below.refl _ _)
    refine StepsF.cons (fun x V hV hp K hK => ?_) ?_
    · have _e := depsAll_get hp 43 (by kernel_rfl); change x 43 = _ at _e; generalize x 43 = _y at _e hK ⊢; subst _e
      have _e := depsAll_get hp 45 (by kernel_rfl); change x 45 = _ at _e; generalize x 45 = _y at _e hK ⊢; subst _e
      go_simp
      exact hK.out _ _ rfl (Below.refl _ _)
    refine StepsF.cons (fun x V hV hp K hK => ?_) ?_
    · have _e := depsAll_get hp 46 (by kernel_rfl); change x 46 = _ at _e; generalize x 46 = _y at _e hK ⊢; subst _e
      go_simp
      exact hK.out _ _ rfl (Below.refl _ _)
    refine StepsF.cons (fun x V hV hp K hK => ?_) ?_
    · have _e := depsAll_get hp 47 (by kernel_rfl); change x 47 = _ at _e; generalize x 47 = _y at _e hK ⊢; subst _e
      go_simp
      exact hK.out _ _ rfl (Below.refl _ _)
    refine StepsF.cons (fun x V hV hp K hK => ?_) ?_
    · have _e := depsAll_get hp 47 (by kernel_rfl); change x 47 = _ at _e; generalize x 47 = _y at _e hK ⊢; subst _e
      have _e := depsAll_get hp 48 (by kernel_rfl); change x 48 = _ at _e; generalize x 48 = _y at _e hK ⊢; subst _e
      go_simp
      exact hK.out _ _ rfl (Below.refl _ _)
    refine StepsF.cons (fun x V hV hp K hK => ?_) ?_
    · have _e := depsAll_get hp 47 (by kernel_rfl); change x 47 = _ at _e; generalize x 47 = _y at _e hK ⊢; subst _e
      have _e := depsAll_get hp 49 (by kernel_rfl); change x 49 = _ at _e; generalize x 49 = _y at _e hK ⊢; subst _e
      go_simp
      exact hK.out _ _ rfl (Below.refl _ _)
    refine StepsF.cons (fun x V hV hp K hK => ?_) ?_
    · have _e := depsAll_get hp 50 (by kernel_rfl); change x 50 = _ at _e; generalize x 50 = _y at _e hK ⊢; subst _e
      go_simp
      exact hK.out _ _ rfl (Below.refl _ _)
    exact StepsF.nil
  intro x v15 hV hall
  have _e := hall 51 (by decide)
  change x 51 = _ at _e
  generalize x 51 = _y at _e ⊢
  subst _e
  clear hall
  go_wp2_with fail
  go_ret
  exact ⟨rfl, hbW.trans ((g12.trans (hV.mono g12.size)).mono hbW.size)⟩
end Go.Proofs.Ytigpefjeelgfdaa

/-
  The bridge: what is known of functions, as calls of the engine.
-/
namespace Go.Proofs.Ytigpefjeelgfdaa.Eng
open Go.RowKit

abbrev rgD (lo hi : Int) : Dat := .agg [iD lo, iD hi]
/-- What a contract of the elder texts says. -/
def Ans (r : Dat) (w : World) (e : Ending) (w' : World) : Prop := ∃ v, e = .returned v ∧ Below w.heap.size w w' ∧ RepD (· < w'.heap.size) w' r v
theorem wcall0 {f : FuncId} {fn : Func} (hf : Try.prog.funcs[f]? = some fn) (hn : (fn.name == "runtime.NumGoroutine") = false) (hb : fn.body.isNone = false) {r : Dat} (h : ∀ w, Calls Try.prog f #[] w (Ans r w)) : WCall Try.prog f [] r :=
  ⟨callable_of hf hn hb, fun w vs hs hr => by
    obtain ⟨l⟩ := vs
    match l, hs with
    | [], _ => exact h w⟩
theorem wcall1 {f : FuncId} {fn : Func} (hf : Try.prog.funcs[f]? = some fn) (hn : (fn.name == "runtime.NumGoroutine") = false) (hb : fn.body.isNone = false) {a r : Dat} (h : ∀ w v, RepD (· < w.heap.size) w a v → Calls Try.prog f #[v] w (Ans r w)) : WCall Try.prog f [a] r :=
  ⟨callable_of hf hn hb, fun w vs hs hr => by
    obtain ⟨l⟩ := vs
    match l, hs with
    | [v], _ => exact h w v (hr 0 a v rfl rfl)⟩
theorem wcall2 {f : FuncId} {fn : Func} (hf : Try.prog.funcs[f]? = some fn) (hn : (fn.name == "runtime.NumGoroutine") = false) (hb : fn.body.isNone = false) {a b r : Dat} (h : ∀ w v u, RepD (· < w.heap.size) w a v → RepD (· < w.heap.size) w b u → Calls Try.prog f #[v, u] w (Ans r w)) : WCall Try.prog f [a, b] r :=
  ⟨callable_of hf hn hb, fun w vs hs hr => by
    obtain ⟨l⟩ := vs
    match l, hs with
    | [v, u], _ => exact h w v u (hr 0 a v rfl rfl) (hr 1 b u rfl rfl)⟩
theorem wcall3 {f : FuncId} {fn : Func} (hf : Try.prog.funcs[f]? = some fn) (hn : (fn.name == "runtime.NumGoroutine") = false) (hb : fn.body.isNone = false) {a b c r : Dat} (h : ∀ w v u t, RepD (· < w.heap.size) w a v → RepD (· < w.heap.size) w b u → RepD (· < w.heap.size) w c t → Calls Try.prog f #[v, u, t] w (Ans r w)) : WCall Try.prog f [a, b, c] r :=
  ⟨callable_of hf hn hb, fun w vs hs hr => by
    obtain ⟨l⟩ := vs
    match l, hs with
    | [v, u, t], _ => exact h w v u t (hr 0 a v rfl rfl) (hr 1 b u rfl rfl) (hr 2 c t rfl rfl)⟩
theorem ans_val {w w' : World} {e : Ending} {v : Value} (h1 : v.oneCell' = true) (h : e = .returned v ∧ Below w.heap.size w w') : Ans (.val v) w e w' := ⟨v, h.1, h.2, .val _ h1⟩

theorem checkWorks_c (x : Works) : ACall Try.prog 22 [worksD x] (iD (worksErr x)) :=
  (wcall1 Try.func22 rfl rfl fun w v hv => by
    obtain ⟨Ab, cb, As, cs, rfl, h⟩ := in_of hv
    exact (refCheckWorks_any Ab As cb cs x _ w h.bars h.steps h.cs1 h.cs2 h.cb1 h.cb2 h.le).mono fun e w' h => ans_val rfl h).strong (.val _)
theorem great_c (x : Works) : ACall Try.prog 14 [worksD x] (bD (greatB x)) :=
  (wcall1 Try.func14 rfl rfl fun w v hv => by
    obtain ⟨Ab, cb, As, cs, rfl, h⟩ := in_of hv
    exact (great_any Ab As cb cs x _ w h.bars h.steps h.cs1 h.cs2 h.cb1 h.cb2 h.le).mono fun e w' h => ans_val rfl h).strong (.val _)
theorem measured_c (x : Works) (lo hi : Int) : ACall Try.prog 74 [worksD x, rgD lo hi] (iD (meaErr x lo hi)) :=
  (wcall2 Try.func74 rfl rfl fun w v u hv hu => by
    obtain ⟨Ab, cb, As, cs, rfl, h⟩ := in_of hv
    obtain rfl := rg_of hu
    exact (refIsMeasured_any Ab As cb cs x lo hi _ w h).mono fun e w' h => ans_val rfl h).strong (.val _)
theorem made_c (x : Works) (m : Nat) (ways : List Int) (lo hi : Int) (ok : RecOk x (m : Int) ways) : ACall Try.prog 97 [worksD x, recD m ways, rgD lo hi] (bD (madeB x m ways lo hi)) :=
  (wcall3 Try.func97 rfl rfl fun w v u t hv hu ht => by
    obtain ⟨Ab, cb, As, cs, Ar, cr, rfl, rfl, h⟩ := in_of2 hv hu
    obtain rfl := rg_of ht
    exact (refMade_ok Ab As Ar cb cs cr x m ways lo hi _ w h ok).mono fun e w' h => ans_val rfl h).strong (.val _)
theorem ints_c (a b : List Int) : ACall Try.prog 39 [intL a, intL b] (bD (decide (a = b))) :=
  (wcall2 Try.func39 rfl rfl fun w v u hv hu => by
    obtain ⟨A, ca, rfl, a1, a2, a3⟩ := ints_of (fun _ h => h) hv
    obtain ⟨B, cb, rfl, b1, b2, b3⟩ := ints_of (fun _ h => h) hu
    exact (lawInts_any A B ca cb a b _ w a3 b3 (Nat.le_refl _) a1 a2 b1 b2).mono fun e w' h => ans_val rfl h).strong (.val _)
theorem ranges_c (a b : List Rg) : ACall Try.prog 25 [.list (rgRows a), .list (rgRows b)] (bD (decide (a = b))) :=
  (wcall2 Try.func25 rfl rfl fun w v u hv hu => by
    obtain ⟨A, ca, rfl, a1, a2, a3⟩ := rgs_of (fun _ h => h) hv
    obtain ⟨B, cb, rfl, b1, b2, b3⟩ := rgs_of (fun _ h => h) hu
    exact (lawRanges_any A B ca cb a b _ w a3 b3 (Nat.le_refl _) a1 a2 b1 b2).mono fun e w' h => ans_val rfl h).strong (.val _)
theorem lists_c (a b : List (List Int)) : ACall Try.prog 40 [.list (listRows a), .list (listRows b)] (bD (decide (a = b))) :=
  (wcall2 Try.func40 rfl rfl fun w v u hv hu => by
    obtain ⟨A, ca, rfl, a1, a2, a3⟩ := lists_of (fun _ h => h) hv
    obtain ⟨B, cb, rfl, b1, b2, b3⟩ := lists_of (fun _ h => h) hu
    exact (lawLists_any A B ca cb a b _ w a3 b3 (Nat.le_refl _) a1 a2 b1 b2).mono fun e w' h => ans_val rfl h).strong (.val _)
theorem tup2 {ro : Nat → Prop} {w : World} {a b : Dat} {x y : Value} (h1 : RepD ro w a x) (h2 : RepD ro w b y) : RepD ro w (.tup [a, b]) (.tuple #[x, y]) := by
  refine .tup _ _ rfl fun i c v hc hv => ?_
  match i with
  | 0 => simp at hc hv; subst hc; subst hv; exact h1
  | 1 => simp at hc hv; subst hc; subst hv; exact h2
  | i + 2 => simp at hc
theorem tup3 {ro : Nat → Prop} {w : World} {a b c : Dat} {x y z : Value} (h1 : RepD ro w a x) (h2 : RepD ro w b y) (h3 : RepD ro w c z) : RepD ro w (.tup [a, b, c]) (.tuple #[x, y, z]) := by
  refine .tup _ _ rfl fun i c v hc hv => ?_
  match i with
  | 0 => simp at hc hv; subst hc; subst hv; exact h1
  | 1 => simp at hc hv; subst hc; subst hv; exact h2
  | 2 => simp at hc hv; subst hc; subst hv; exact h3
  | i + 3 => simp at hc
theorem nil_list {ro : Nat → Prop} {w : World} : RepD ro w (.list []) (.slice none 0 0) := .list [] none 0 (fun _ _ => default) (by simp) (by simp [maxLen]) (by simp) (by simp) (by simp)
/-- A list, or an error and nil. -/
def ansD (err : Int) (rows : List (List Dat)) : Dat := .tup [.list (if err = 0 then rows else []), iD err]
theorem ans_res {F : Fact} {err : Int} {rows : List (List Dat)} {f : FuncId} {args : Array Value} {w : World} (hF : ∀ u w', F.holds u w' → RepD (· < w'.heap.size) w' (.list rows) u) (h : CallsF f args w (F.res err)) : Calls Try.prog f args w (Ans (ansD err rows) w) := by
  refine Calls.mono h ?_
  rintro e w' ⟨v, rfl, ⟨u, rfl, h1, h2⟩, hb⟩
  refine ⟨_, rfl, hb, tup2 ?_ (.val _ rfl)⟩
  by_cases h0 : err = 0
  · rw [if_pos h0]; exact hF _ _ (h1 h0)
  · rw [if_neg h0, h2 h0]; exact nil_list
theorem bars_c (x : Works) (lo hi : Int) : WCall Try.prog 33 [worksD x, rgD lo hi] (ansD (someErr x lo hi) (iRows (leftN x lo hi (-1)))) :=
  wcall2 Try.func33 rfl rfl fun w v u hv hu => by
    obtain ⟨Ab, cb, As, cs, rfl, h⟩ := in_of hv
    obtain rfl := rg_of hu
    exact ans_res (F := Fact.ints _) (fun _ _ h => of_ints (fun _ h => h) h) (heatBars_read h)
theorem ways_c (x : Works) (lo hi : Int) : WCall Try.prog 35 [worksD x, rgD lo hi] (ansD (someErr x lo hi) (listRows ((List.range x.steps.length).map fun (i : Nat) => leftN x lo hi i))) :=
  wcall2 Try.func35 rfl rfl fun w v u hv hu => by
    obtain ⟨Ab, cb, As, cs, rfl, h⟩ := in_of hv
    obtain rfl := rg_of hu
    exact ans_res (F := Fact.lists _) (fun _ _ h => of_lists (fun _ h => h) h) (heatWays_read h)
theorem count_c (x : Works) (lo hi : Int) : ACall Try.prog 37 [worksD x, rgD lo hi] (.tup [iD (if makErr x lo hi = 0 then (totN x lo hi : Int) else 0), iD (makErr x lo hi)]) :=
  (wcall2 Try.func37 rfl rfl fun w v u hv hu => by
    obtain ⟨Ab, cb, As, cs, rfl, h⟩ := in_of hv
    obtain rfl := rg_of hu
    exact (heatCount_any Ab As cb cs x lo hi _ w h).mono fun e w' h => ⟨_, h.1, h.2, tup2 (.val _ rfl) (.val _ rfl)⟩).strong (.tup _ (by simp))
def askD (x : Works) (mlo mhi : Int) : Dat :=
  if someErr x mlo mhi = 0 then .tup [iD ((askAt x mlo mhi : Int) - 1), iD (intAt (wlTo x mlo mhi (x.steps.length + 1)) (askAt x mlo mhi)), iD 0]
  else .tup [iD 0, iD 0, iD (someErr x mlo mhi)]
theorem ask_c (x : Works) (lo hi : Int) : ACall Try.prog 41 [worksD x, rgD lo hi] (askD x lo hi) :=
  (wcall2 Try.func41 rfl rfl fun w v u hv hu => by
    obtain ⟨Ab, cb, As, cs, rfl, h⟩ := in_of hv
    obtain rfl := rg_of hu
    refine (heatAsk_any Ab As cb cs x lo hi _ w h).mono fun e w' h => ⟨_, h.1, h.2, ?_⟩
    unfold askV askD
    split
    · exact tup3 (.val _ rfl) (.val _ rfl) (.val _ rfl)
    · exact tup3 (.val _ rfl) (.val _ rfl) (.val _ rfl)).strong (by unfold askD; split <;> exact .tup _ (by simp))
theorem works_c : ACall Try.prog 16 [] (bD true) :=
  (wcall0 Try.func16 rfl rfl fun w => (works_any w).mono fun e w' h => ans_val rfl h).strong (.val _)
end Go.Proofs.Ytigpefjeelgfdaa.Eng

/-
  Layer 1, plain: what HeatReached asks.
-/
namespace Go.Proofs.Ytigpefjeelgfdaa
open Go.RowKit

theorem hist_rng {x : Works} {m : Nat} {ways hist : List Int} (ok : RecOk x m ways) (h : histErr x m ways hist = 0) (hl : hist.length = x.steps.length + 1) : ∀ i, i ≤ x.steps.length → (rngN x m ways i).1 ≤ intAt hist i ∧ intAt hist i ≤ (rngN x m ways i).2
  | 0, _ => by
    have hall : allN (histOk x m ways hist) hist.length = true := by
      by_cases g : allN (histOk x m ways hist) hist.length = true
      · exact g
      · have g' : allN (histOk x m ways hist) hist.length = false := by simpa using g
        unfold histErr at h
        rw [if_neg (by simpa using recOk_iff.2 ok), if_neg (by simpa using hl), if_pos g'] at h
        cases h
    have := allN_iff.1 hall 0 (by omega)
    have t : histOk x m ways hist 0 = inB (intAt hist 0) (rgAt x.bars m).1 (rgAt x.bars m).2 := by simp [histOk, within]
    rw [t] at this
    simp only [inB, decide_eq_true_eq] at this
    exact this
  | i + 1, hi => by
    have hall : allN (histOk x m ways hist) hist.length = true := by
      by_cases g : allN (histOk x m ways hist) hist.length = true
      · exact g
      · have g' : allN (histOk x m ways hist) hist.length = false := by simpa using g
        unfold histErr at h
        rw [if_neg (by simpa using recOk_iff.2 ok), if_neg (by simpa using hl), if_pos g'] at h
        cases h
    have h1 := allN_iff.1 hall (i + 1) (by omega)
    have ih := hist_rng ok h hl i (by omega)
    have hv := rngN_val ok i (by omega)
    have hw := way_ok (wayOf_err ok (show i < x.steps.length by omega))
    have m1 := aft_mono hw.2.2.1 hw.2.2.2 hw.1 (lo := (rngN x m ways i).1) (hi := intAt hist i) ih.1 (by omega)
    have m2 := aft_mono hw.2.2.1 hw.2.2.2 hw.1 (lo := intAt hist i) (hi := (rngN x m ways i).2) ih.2 (by omega)
    have h2 : inB (intAt hist (i + 1)) (aft (wayOf x ways i) (intAt hist i)).1 (aft (wayOf x ways i) (intAt hist i)).2 = true := h1
    simp only [inB, decide_eq_true_eq] at h2
    show (aft (wayOf x ways i) (rngN x m ways i).1).1 ≤ _ ∧ _ ≤ (aft (wayOf x ways i) (rngN x m ways i).2).2
    omega
section
variable {x : Works} {m : Nat} {ways : List Int} {e : Int}
theorem reach_agr (ok : RecOk x m ways) (h1 : (rngN x m ways x.steps.length).1 ≤ e) (h2 : e ≤ (rngN x m ways x.steps.length).2) : agrErr x m ways e e = 0 ∧ hadAny x (rowOf x ways (barP x m)) (meas e e) = true := by
  have hv := rngN_val ok x.steps.length (Nat.le_refl _)
  have hh : isHardB e e = true := isHardB_iff.2 (by omega)
  have hm : hadAny x (rowOf x ways (barP x m)) (meas e e) = true := by
    rw [made_iff ok hh]
    simp only [madeB, Bool.and_eq_true, decide_eq_true_eq]
    exact ⟨h1, h2⟩
  refine ⟨?_, hm⟩
  unfold agrErr
  have hm2 : hadAny x (recRows x m ways) (meas e e) = true := hm
  rw [if_neg (by simpa using recOk_iff.2 ok), if_neg (by simp [hh]), if_neg (by simp [hm2])]
theorem reach_last (ok : RecOk x m ways) (h1 : (rngN x m ways x.steps.length).1 ≤ e) (h2 : e ≤ (rngN x m ways x.steps.length).2) : hadE x m ways e e x.steps.length = (e, e) := by
  rw [hadE_last ok (reach_agr ok h1 h2).2, Prod.mk.injEq]
  omega
theorem reach_in {lo hi : Int} (ok : RecOk x m ways) (hany : hadAny x (rowOf x ways (barP x m)) (meas lo hi) = true) {k : Nat} (hk : k ≤ x.steps.length) :
    (hadE x m ways lo hi k).1 ≤ intAt (histVals x m ways lo hi) k ∧ intAt (histVals x m ways lo hi) k ≤ (hadE x m ways lo hi k).2 := by
  obtain ⟨j, h1, _, _, h4⟩ := hist_in ok hany k hk
  have h5 := (agrRows_in ok hany hk j).1 h4
  have h6 : intAt (histVals x m ways lo hi) k = histN x m ways (agrRows x m ways lo hi) k := histVals_at (bar := (m : Int)) hk
  rw [h6, h1]
  exact h5
end
theorem rngsOf_at {x : Works} {m : Nat} {ways : List Int} {i : Nat} (hi : i ≤ x.steps.length) : (rngsOf x m ways)[i]? = some (rngN x m ways i) := by
  unfold rngsOf
  rw [List.getElem?_map, List.getElem?_range (by omega)]
  rfl
theorem hadsOf_at {x : Works} {m : Nat} {ways : List Int} {lo hi : Int} {i : Nat} (hi' : i ≤ x.steps.length) : (hadsOf x m ways lo hi)[i]? = some (hadE x m ways lo hi i) := by
  unfold hadsOf endsL
  rw [List.getElem?_map, List.getElem?_range (by omega)]
  rfl
theorem rngsOf_len (x : Works) (bar : Int) (ways : List Int) : (rngsOf x bar ways).length = x.steps.length + 1 := by simp [rngsOf]
theorem hadsOf_len (x : Works) (bar : Int) (ways : List Int) (lo hi : Int) : (hadsOf x bar ways lo hi).length = x.steps.length + 1 := by simp [hadsOf, endsL]

/-- A list of ranges, and one of numbers, that is kept: what it holds at i, in each later world. -/
theorem rgs_at {w : World} {v : Value} {l : List Rg} (h : Rgs w w.heap.size v l) : ∃ A c, v = .slice A l.length c ∧ l.length ≤ c ∧ c ≤ 9223372036854775807 ∧ (0 < l.length → ∃ b o, A = some ⟨b, o, none⟩ ∧ b < w.heap.size ∧
    ∀ V, Below w.heap.size w V → ∀ i r, l[i]? = some r → V.cell? ⟨b, o + i * 2, none⟩ = some (.int .i64 r.1) ∧ V.cell? ⟨b, o + i * 2 + 1, none⟩ = some (.int .i64 r.2)) := by
  obtain ⟨A, c, rfl, h1, h2, h3⟩ := h
  refine ⟨A, c, rfl, h1, h2, fun hp => ?_⟩
  obtain ⟨b, o, hA, hb, hx⟩ := h3 hp
  refine ⟨b, o, hA, hb, fun V hV i r hi => ?_⟩
  obtain ⟨g1, g2⟩ := hx i r hi
  exact ⟨(hV.cell (p := ⟨b, o + i * 2, none⟩) hb).trans g1, (hV.cell (p := ⟨b, o + i * 2 + 1, none⟩) hb).trans g2⟩
theorem ints_at {w : World} {v : Value} {l : List Int} (h : Ints .i64 w w.heap.size v l) : ∃ A c, v = .slice A l.length c ∧ l.length ≤ c ∧ c ≤ 9223372036854775807 ∧ (0 < l.length → ∃ b o, A = some ⟨b, o, none⟩ ∧ b < w.heap.size ∧
    ∀ V, Below w.heap.size w V → ∀ i, i < l.length → V.cell? ⟨b, o + i, none⟩ = some (.int .i64 (intAt l i))) := by
  obtain ⟨A, c, rfl, h1, h2, h3⟩ := h
  refine ⟨A, c, rfl, h1, h2, fun hp => ?_⟩
  obtain ⟨b, o, hA, hb, hx⟩ := h3 hp
  refine ⟨b, o, hA, hb, fun V hV i hi => ?_⟩
  have h4 : l[i]? = some l[i] := List.getElem?_eq_getElem hi
  have h5 := hx i l[i] h4
  rw [intAt_of (Lib.hid h4)]
  rw [Nat.mul_one] at h5
  exact (hV.cell (p := ⟨b, o + i, none⟩) hb).trans h5
end Go.Proofs.Ytigpefjeelgfdaa

/-
  The engine, part R: a cut in a walk; calls that return one of some data. No program is named here.
-/
namespace Go.Proofs.Ytigpefjeelgfdaa.Eng
open Go.RowKit
variable {P : Program} {tp : Bool} {ns : Nat}

/-- What follows, under a name: a state that several ways lead to. -/
structure JJ (n : Nat) (l : List (Nat × SV)) (m : List (Nat × Blk)) where
  K : Nat → St → Prop
  h : ∀ n' s', (∃ σ, Fits n l m σ s') → K n' s'
theorem JJ.go {n : Nat} {l : List (Nat × SV)} {m : List (Nat × Blk)} {k : JJ n l m} {n' : Nat} {s' : St} (σ : List Nat) (h : Fits n l m σ s') : k.K n' s' := k.h n' s' ⟨σ, h⟩
theorem AWp.cut {x y : Code} {n : Nat} {s : St} {Q : Post} (n' : Nat) (l : List (Nat × SV)) (m : List (Nat × Blk)) (h1 : ∀ k : JJ n' l m, AWp P tp ns x n s (thenP k.K Q)) (h2 : AWp P tp ns y n' (mkSt l m) Q) : AWp P tp ns (.seq x y) n s Q :=
  AWp.seq (h1 ⟨fun n s => AWp P tp ns y n s Q, fun _ _ ⟨_, hf⟩ => AWp.fits hf h2⟩)
theorem AWp.seqFits {x y : Code} {n : Nat} {s : St} {Q : Post} {n' : Nat} {l : List (Nat × SV)} {m : List (Nat × Blk)} (h2 : AWp P tp ns y n' (mkSt l m) Q) (h1 : ∀ k : JJ n' l m, AWp P tp ns x n s (thenP k.K Q)) : AWp P tp ns (.seq x y) n s Q := AWp.cut n' l m h1 h2
theorem KK.plan0 {y : Code} {Q : Post} {G : Prop} (_ : KK P tp ns y Q) (n' : Nat) (l : List (Nat × SV)) (m : List (Nat × Blk)) (h2 : AWp P tp ns y n' (mkSt l m) Q) (h : AWp P tp ns y n' (mkSt l m) Q → G) : G := h h2
theorem KK.plan1 {a y : Code} {Q : Post} {G : Prop} (_ : KK P tp ns (.seq a y) Q) (n' : Nat) (l : List (Nat × SV)) (m : List (Nat × Blk)) (h2 : AWp P tp ns y n' (mkSt l m) Q) (h : AWp P tp ns y n' (mkSt l m) Q → G) : G := h h2
theorem KK.plan2 {a b y : Code} {Q : Post} {G : Prop} (_ : KK P tp ns (.seq a (.seq b y)) Q) (n' : Nat) (l : List (Nat × SV)) (m : List (Nat × Blk)) (h2 : AWp P tp ns y n' (mkSt l m) Q) (h : AWp P tp ns y n' (mkSt l m) Q → G) : G := h h2
theorem KK.plan3 {a b c y : Code} {Q : Post} {G : Prop} (_ : KK P tp ns (.seq a (.seq b (.seq c y))) Q) (n' : Nat) (l : List (Nat × SV)) (m : List (Nat × Blk)) (h2 : AWp P tp ns y n' (mkSt l m) Q) (h : AWp P tp ns y n' (mkSt l m) Q → G) : G := h h2
end Go.Proofs.Ytigpefjeelgfdaa.Eng

/-
  The bridge: functions that return lists of their own, as calls of the engine; and those of which only some things are known.
-/
namespace Go.Proofs.Ytigpefjeelgfdaa.Eng
open Go.RowKit

/-- A list that a call made: nobody else has it. -/
theorem own_dl {α : Type} {row : α → List Dat} {f : α → List Value} {s : Nat} (hrow : ∀ x, row x = (f x).map Dat.val) (hf : ∀ x, (f x).length = s) (h1 : ∀ x, ∀ u ∈ f x, u.oneCell' = true)
    {w : World} {base : Nat} {e : TypeId} {v : Value} {l : List α} (h : w.ownsRow base e s v l.length (l.flatMap f)) : RepD (fun b => base ≤ b ∧ b < w.heap.size) w (.list (l.map row)) v := by
  have hl : (l.map row).length = l.length := List.length_map _
  rcases h.2 with ⟨h2, h3⟩ | ⟨g, cap, cur, hv, hb, hg, hnc, hcm, hcs, htake⟩
  · obtain rfl : l = [] := List.eq_nil_of_length_eq_zero h3
    subst h2
    exact nil_list
  · rw [hv, ← hl]
    refine .list _ _ cap (fun i j => (w.cell? ⟨g, 0 + i * s + j, none⟩).getD default) (by rw [hl]; exact hnc) hcm ?_ (fun _ => ⟨g, 0, s, rfl, ⟨hb, (Array.getElem?_eq_some_iff.1 hg).1⟩, ?_, ?_⟩) ?_
    · intro r hr c hc
      obtain ⟨x, _, rfl⟩ := List.mem_map.1 hr
      rw [hrow] at hc
      obtain ⟨u, hu, rfl⟩ := List.mem_map.1 hc
      rfl
    · intro r hr
      obtain ⟨x, _, rfl⟩ := List.mem_map.1 hr
      rw [hrow, List.length_map, hf]
    · intro i j hi hj
      rw [hl] at hi
      have key : ∃ u, w.cell? ⟨g, 0 + i * s + j, none⟩ = some u := by
        have h3 := flatMap_get f s hf l i j _ (List.getElem?_eq_getElem hi) hj
        rw [← htake, List.getElem?_take] at h3
        split at h3
        · rw [cell_of_row w g _ cur e (0, 0) hg, Nat.zero_add]
          rw [Array.getElem?_toList] at h3
          exact ⟨_, h3.trans (List.getElem?_eq_getElem (by rw [hf]; exact hj))⟩
        · rw [List.getElem?_eq_getElem (by rw [hf]; exact hj)] at h3; cases h3
      obtain ⟨u, hu⟩ := key
      rw [hu]; rfl
    · intro i j r c hr hc
      rw [List.getElem?_map, Option.map_eq_some_iff] at hr
      obtain ⟨x, hx, rfl⟩ := hr
      rw [hrow, List.getElem?_map, Option.map_eq_some_iff] at hc
      obtain ⟨u, hu, rfl⟩ := hc
      have hj : j < s := by rw [← hf x]; exact (List.getElem?_eq_some_iff.1 hu).1
      have h3 := flatMap_get f s hf l i j x hx hj
      rw [hu, ← htake, List.getElem?_take] at h3
      split at h3
      · rw [cell_of_row w g _ cur e (0, 0) hg, Nat.zero_add]
        rw [Array.getElem?_toList] at h3
        rw [h3]
        exact .val _ (h1 x u (List.mem_of_getElem? hu))
      · cases h3
/-- What a call says that returns what is its own. -/
def AnsN (r : Dat) (w : World) (e : Ending) (w' : World) : Prop := ∃ v, e = .returned v ∧ Below w.heap.size w w' ∧ RepD (fun b => w.heap.size ≤ b ∧ b < w'.heap.size) w' r v
theorem acall2 {f : FuncId} {fn : Func} (hf : Try.prog.funcs[f]? = some fn) (hn : (fn.name == "runtime.NumGoroutine") = false) (hb : fn.body.isNone = false) {a b r : Dat} (h : ∀ w v u, RepD (· < w.heap.size) w a v → RepD (· < w.heap.size) w b u → Calls Try.prog f #[v, u] w (AnsN r w)) : ACall Try.prog f [a, b] r :=
  ⟨callable_of hf hn hb, fun ro w vs hro hs hr => by
    obtain ⟨l⟩ := vs
    match l, hs with
    | [v, u], _ => exact (h w v u ((hr 0 a v rfl rfl).keep hro fun _ _ => rfl) ((hr 1 b u rfl rfl).keep hro fun _ _ => rfl)).mono fun e w' ⟨y, h1, h2, h3⟩ => ⟨y, h1, h2, h3.keep (fun _ h => .inr h) fun _ _ => rfl⟩⟩
theorem acall3 {f : FuncId} {fn : Func} (hf : Try.prog.funcs[f]? = some fn) (hn : (fn.name == "runtime.NumGoroutine") = false) (hb : fn.body.isNone = false) {a b c r : Dat} (h : ∀ w v u t, RepD (· < w.heap.size) w a v → RepD (· < w.heap.size) w b u → RepD (· < w.heap.size) w c t → Calls Try.prog f #[v, u, t] w (AnsN r w)) : ACall Try.prog f [a, b, c] r :=
  ⟨callable_of hf hn hb, fun ro w vs hro hs hr => by
    obtain ⟨l⟩ := vs
    match l, hs with
    | [v, u, t], _ => exact (h w v u t ((hr 0 a v rfl rfl).keep hro fun _ _ => rfl) ((hr 1 b u rfl rfl).keep hro fun _ _ => rfl) ((hr 2 c t rfl rfl).keep hro fun _ _ => rfl)).mono fun e w' ⟨y, h1, h2, h3⟩ => ⟨y, h1, h2, h3.keep (fun _ h => .inr h) fun _ _ => rfl⟩⟩
theorem ret_strong {α : Type} {row : α → List Dat} {g : α → List Value} {s : Nat} (hrow : ∀ x, row x = (g x).map Dat.val) (hg : ∀ x, (g x).length = s) (h1 : ∀ x, ∀ u ∈ g x, u.oneCell' = true)
    {t : TypeId} {err : Int} {l : List α} {f : FuncId} {args : Array Value} {w : World} {n : Nat} {xs : List Value} (hn : n = l.length) (hx : xs = l.flatMap g) (h : Calls Try.prog f args w (RetList t s err n xs w)) : Calls Try.prog f args w (AnsN (ansD err (l.map row)) w) := by
  subst hn hx
  refine h.mono ?_
  rintro e w' ⟨v, rfl, h2, h3, hb⟩
  refine ⟨_, rfl, hb, tup2 ?_ (.val _ rfl)⟩
  by_cases h0 : err = 0
  · rw [if_pos h0]; exact own_dl hrow hg h1 (h2 h0).out
  · rw [if_neg h0, h3 h0]; exact nil_list
theorem rgV_row (x : Rg) : rgRow x = (rgV x).map Dat.val := rfl
theorem intVals_flat (l : List Int) : intVals l = l.flatMap fun n => [Value.int .i64 n] := by
  unfold intVals
  exact List.map_eq_flatMap
theorem had_c (x : Works) (bar : Int) (ways : List Int) (lo hi : Int) : ACall Try.prog 28 [worksD x, recD bar ways, rgD lo hi] (ansD (agrErr x bar ways lo hi) (rgRows (hadsOf x bar ways lo hi))) :=
  acall3 Try.func28 rfl rfl fun w v u t hv hu ht => by
    obtain ⟨Ab, cb, As, cs, Ar, cr, rfl, rfl, h⟩ := in_of2 hv hu
    obtain rfl := rg_of ht
    exact ret_strong (l := hadsOf x bar ways lo hi) rgV_row (fun _ => rfl) (by simp [rgV, Value.oneCell']) (hadsOf_len _ _ _ _ _).symm (endsL_cells _ _).symm (heatHad_any Ab As Ar cb cs cr x bar ways lo hi _ w h)
theorem ranges_w (x : Works) (bar : Int) (ways : List Int) : ACall Try.prog 23 [worksD x, recD bar ways] (ansD (recErr x bar ways) (rgRows (endsL (rowOf x ways (barP x bar.toNat)) (x.steps.length + 1)))) :=
  acall2 Try.func23 rfl rfl fun w v u hv hu => by
    obtain ⟨Ab, cb, As, cs, Ar, cr, rfl, rfl, h⟩ := in_of2 hv hu
    exact ret_strong rgV_row (fun _ => rfl) (by simp [rgV, Value.oneCell']) (endsL_length _ _).symm (endsL_cells _ _).symm (heatRanges_any Ab As Ar cb cs cr x bar ways _ w h)
theorem history_c (x : Works) (bar : Int) (ways : List Int) (lo hi : Int) : ACall Try.prog 30 [worksD x, recD bar ways, rgD lo hi] (ansD (agrErr x bar ways lo hi) (iRows (histVals x bar ways lo hi))) :=
  acall3 Try.func30 rfl rfl fun w v u t hv hu ht => by
    obtain ⟨Ab, cb, As, cs, Ar, cr, rfl, rfl, h⟩ := in_of2 hv hu
    obtain rfl := rg_of ht
    exact ret_strong (row := fun n => [iD n]) (g := fun n => [Value.int .i64 n]) (fun _ => rfl) (fun _ => rfl) (by simp [Value.oneCell']) (histVals_len _ _ _ _ _).symm (intVals_flat _) (heatHistory_any Ab As Ar cb cs cr x bar ways lo hi _ w h)
theorem bars_s (x : Works) (lo hi : Int) : ACall Try.prog 33 [worksD x, rgD lo hi] (ansD (someErr x lo hi) (iRows (leftN x lo hi (-1)))) :=
  acall2 Try.func33 rfl rfl fun w v u hv hu => by
    obtain ⟨Ab, cb, As, cs, rfl, h⟩ := in_of hv
    obtain rfl := rg_of hu
    exact ret_strong (row := fun n => [iD n]) (g := fun n => [Value.int .i64 n]) (fun _ => rfl) (fun _ => rfl) (by simp [Value.oneCell']) rfl (intVals_flat _) (heatBars_any Ab As cb cs x lo hi _ w h)
theorem chkHist_c (x : Works) (bar : Int) (ways hist : List Int) : ACall Try.prog 26 [worksD x, recD bar ways, intL hist] (iD (histErr x bar ways hist)) :=
  (wcall3 Try.func26 rfl rfl fun w v u t hv hu ht => by
    obtain ⟨Ab, cb, As, cs, Ar, cr, rfl, rfl, h⟩ := in_of2 hv hu
    obtain ⟨Ah, ch, rfl, h1, h2, h3⟩ := ints_of (fun _ h => h) ht
    exact (heatCheckHistory_any Ab As Ar Ah cb cs cr ch x bar ways hist _ w h h3 h1 h2).mono fun e w' h => ans_val rfl h).strong (.val _)
theorem fine_c (x : Works) : ACall Try.prog 43 [worksD x] (bD (fineB x)) :=
  (wcall1 Try.func43 rfl rfl fun w v hv => by
    obtain ⟨Ab, cb, As, cs, rfl, h⟩ := in_of hv
    exact (fine_any Ab As cb cs x _ w h).mono fun e w' h => ans_val rfl h).strong (.val _)
theorem isHard_c (lo hi : Int) : ACall Try.prog 47 [rgD lo hi] (bD (isHardB lo hi)) :=
  (wcall1 Try.func47 rfl rfl fun w v hv => by
    obtain rfl := rg_of hv
    exact (refIsHard_any lo hi w).mono fun e w' h => ans_val rfl h).strong (.val _)
/-! ### Numbers of another kind; a recipe and a history by numbers -/
def kRows (k : IntKind) (l : List Int) : List (List Dat) := l.map fun n => [.val (.int k n)]
abbrev kintL (k : IntKind) (l : List Int) : Dat := .list (kRows k l)
@[simp] theorem kRows_len (k : IntKind) (l : List Int) : (kRows k l).length = l.length := List.length_map _
@[simp] theorem kRows_get (k : IntKind) (l : List Int) (i : Nat) : (kRows k l)[i]? = (l[i]?).map fun n => [.val (.int k n)] := List.getElem?_map
theorem kints_of {k : IntKind} {ro : Nat → Prop} {w : World} {B : Nat} (hro : ∀ b, ro b → b < B) {l : List Int} (hl : ∀ n ∈ l, (Lit.int k n).wf = true) {v : Value} (h : RepD ro w (kintL k l) v) : SL (IntW k) 1 w B v l :=
  sl_of_dl (row := fun n => [.val (.int k n)]) (fun _ => rfl) hro (fun b off x hx _ hj => by
    obtain ⟨u, h1, h2⟩ := hj 0 _ rfl
    rw [val_inv h2] at h1
    exact ⟨h1, hl x hx⟩) h
theorem of_kints {k : IntKind} {ro : Nat → Prop} {w : World} {B : Nat} (hro : ∀ b, b < B → ro b) {l : List Int} {v : Value} (h : SL (IntW k) 1 w B v l) : RepD ro w (kintL k l) v :=
  dl_of_sl (row := fun n => [.val (.int k n)]) (fun _ => rfl) (by simp [Dat.one]) hro (fun b off x _ _ hx j c hj => by
    match j with
    | 0 => simp at hj; subst hj; exact ⟨_, hx.1, .val _ rfl⟩
    | j + 1 => simp at hj) h
theorem agg2 {ro : Nat → Prop} {w : World} {a b : Dat} {x y : Value} (h1 : RepD ro w a x) (h2 : RepD ro w b y) (a1 : a.one = true) (b1 : b.one = true) : RepD ro w (.agg [a, b]) (.agg #[x, y]) := by
  refine .agg _ _ rfl (fun c hc => by
    rcases List.mem_cons.1 hc with rfl | hc
    · exact a1
    · rw [List.mem_singleton.1 hc]; exact b1) fun i c v hc hv => ?_
  match i with
  | 0 => simp at hc hv; subst hc; subst hv; exact h1
  | 1 => simp at hc hv; subst hc; subst hv; exact h2
  | i + 2 => simp at hc
theorem one_c {x : Works} (hw : worksErr x = 0) (nums : List Int) (hl : ∀ n ∈ nums, (Lit.int .u8 n).wf = true) : ECall Try.prog 44 [worksD x, kintL .u8 nums] fun d => ∃ (m : Nat) (ways : List Int), d = recD m ways ∧ RecOk x m ways :=
  ⟨callable_of Try.func44 rfl rfl, fun w vs hs hr => by
    obtain ⟨l⟩ := vs
    match l, hs with
    | [v, u], _ =>
      obtain ⟨Ab, cb, As, cs, rfl, h⟩ := in_of (hr 0 _ v rfl rfl)
      obtain ⟨Ay, cy, rfl, y1, y2, y3⟩ := kints_of (fun _ h => h) hl (hr 1 _ u rfl rfl)
      refine (one_ok Ab As Ay cb cs cy x nums _ w h y3 y1 y2 hw).mono ?_
      rintro e w' ⟨bar, A, c, ways, rfl, ok, h1, h2, h3, hb⟩
      obtain ⟨m, rfl⟩ := Int.eq_ofNat_of_zero_le ok.bar0
      exact ⟨_, _, ⟨m, ways, rfl, ok⟩, rfl, hb, agg2 (.val _ rfl) (of_ints (B := w'.heap.size) (fun _ h => h) ⟨_, _, rfl, h2, h3, h1⟩) rfl rfl⟩⟩
theorem true_c {x : Works} {m : Nat} {ways : List Int} (ok : RecOk x m ways) (nums : List Int) (hl : ∀ n ∈ nums, (Lit.int .u32 n).wf = true) : ECall Try.prog 45 [worksD x, recD m ways, kintL .u32 nums] fun d => ∃ hist : List Int, d = intL hist ∧ histErr x m ways hist = 0 ∧ hist.length = x.steps.length + 1 :=
  ⟨callable_of Try.func45 rfl rfl, fun w vs hs hr => by
    obtain ⟨l⟩ := vs
    match l, hs with
    | [v, t, u], _ =>
      obtain ⟨Ab, cb, As, cs, Ar, cr, rfl, rfl, h⟩ := in_of2 (hr 0 _ v rfl rfl) (hr 1 _ t rfl rfl)
      obtain ⟨Ay, cy, rfl, y1, y2, y3⟩ := kints_of (fun _ h => h) hl (hr 2 _ u rfl rfl)
      refine (true_ok Ab As Ar Ay cb cs cr cy x m ways nums _ w h y3 y1 y2 ok).mono ?_
      rintro e w' ⟨A, c, hist, rfl, h1, h2, h3, h4, h5, hb⟩
      exact ⟨_, _, ⟨hist, rfl, h1, h2⟩, rfl, hb, of_ints (B := w'.heap.size) (fun _ h => h) ⟨_, _, rfl, h4, h5, h3⟩⟩⟩
end Go.Proofs.Ytigpefjeelgfdaa.Eng

/-
  Layer 1's statements, by the engine: whether a number is in a list.
-/
namespace Go.Proofs.Ytigpefjeelgfdaa.Eng
open Go.RowKit

theorem mem_take_succ {l : List Int} {k : Nat} {x : Int} (h : l[k]? = some x) (n : Int) : n ∈ l.take (k + 1) ↔ n ∈ l.take k ∨ n = x := by
  obtain ⟨hk, rfl⟩ := List.getElem?_eq_some_iff.1 h
  rw [List.take_succ_eq_append_getElem hk, List.mem_append, List.mem_singleton]
set_option maxRecDepth 100000 in
set_option maxHeartbeats 4000000 in
theorem in_c (l : List Int) (n : Int) (hl : l.length ≤ 1000) : ACall Try.prog 49 [intL l, iD n] (bD (decide (n ∈ l))) := by
  refine acallK tabOk Try.func49 rfl rfl (show 2 ≤ _ by decide) rfl fun _ => ?_; simp only [Try.ntmps49]
  repeat (first | (with_reducible first | refine AWp.seqK fun _ => ?_ | refine AWp.blockK fun _ => ?_ | refine KK.go ?_) | ((first | refine AWp.reg tabOk ?_ | refine AWp.condK fun _ _ => ?_ | refine AWp.draws tabOk (by kernel_rfl) (by kernel_rfl) ?_); simp [-getElem?_pos, z0, z1, z2, ]) | ((first | refine AWp.ret ?_ | refine AWp.skip ?_ | refine AWp.exit ?_); try simp only [thenP]) | (with_reducible refine BB.go ?_; simp only [blockP, thenP, if_true, if_false, reduceIte]) | (with_reducible refine And.intro (show okLog _ _ = true from by kernel_rfl) ?_))
  refine AWp.loopK (ι := { k : Nat // k ≤ l.length ∧ n ∉ l.take k }) (n := 0) (fun k => [(0, .d (intL l)), (1, .d (iD n)), (5, .d (iD k.1))]) (fun _ => []) (fun k => l.length - k.1) ⟨0, Nat.zero_le _, by simp⟩ [] ?_ ?_
  · refine ⟨by rfl, by simp [], by simp [or_imp, forall_and, ] <;> (try (intro _hne; simp [_hne])), by decide⟩
  rintro ⟨k, hk, hn⟩ kk
  have w1 : IntKind.i64.wrap ((k : Int) + 1) = (k : Int) + 1 := wrap64_in (by omega)
  by_cases hlt : k < l.length
  · obtain ⟨x, hx⟩ : ∃ x, l[k]? = some x := ⟨_, List.getElem?_eq_getElem hlt⟩
    by_cases he : x = n
    · subst he
      have hm : x ∈ l := List.mem_of_getElem? hx
      repeat (first | (with_reducible first | refine AWp.seqK fun _ => ?_ | refine AWp.blockK fun _ => ?_ | refine KK.go ?_) | ((first | refine AWp.reg tabOk ?_ | refine AWp.condK fun _ _ => ?_ | refine AWp.draws tabOk (by kernel_rfl) (by kernel_rfl) ?_); simp [-getElem?_pos, z0, z1, z2, hlt, hx]) | ((first | refine AWp.ret ?_ | refine AWp.skip ?_ | refine AWp.exit ?_); try simp only [thenP]) | (with_reducible refine BB.go ?_; simp only [blockP, thenP, if_true, if_false, reduceIte]) | (with_reducible refine And.intro (show okLog _ _ = true from by kernel_rfl) ?_))
      (first | refine RR.ret ?_ | refine RR.normal ?_); simp [hm]
    · have hm : n ∉ l.take (k + 1) := by rw [mem_take_succ hx]; exact fun h => h.elim hn fun h => he h.symm
      repeat (first | (with_reducible first | refine AWp.seqK fun _ => ?_ | refine AWp.blockK fun _ => ?_ | refine KK.go ?_) | ((first | refine AWp.reg tabOk ?_ | refine AWp.condK fun _ _ => ?_ | refine AWp.draws tabOk (by kernel_rfl) (by kernel_rfl) ?_); simp [-getElem?_pos, z0, z1, z2, hlt, hx, he, w1]) | ((first | refine AWp.ret ?_ | refine AWp.skip ?_ | refine AWp.exit ?_); try simp only [thenP]) | (with_reducible refine BB.go ?_; simp only [blockP, thenP, if_true, if_false, reduceIte]) | (with_reducible refine And.intro (show okLog _ _ = true from by kernel_rfl) ?_))
      refine LL.go ⟨k + 1, hlt, hm⟩ [] ⟨by rfl, by simp [], by simp [or_imp, forall_and, ] <;> (try (intro _hne; simp [_hne])), by decide⟩ ?_
      simp; omega
  · obtain rfl : k = l.length := by omega
    have hm : n ∉ l := by rwa [List.take_of_length_le (Nat.le_refl _)] at hn
    repeat (first | (with_reducible first | refine AWp.seqK fun _ => ?_ | refine AWp.blockK fun _ => ?_ | refine KK.go ?_) | ((first | refine AWp.reg tabOk ?_ | refine AWp.condK fun _ _ => ?_ | refine AWp.draws tabOk (by kernel_rfl) (by kernel_rfl) ?_); simp [-getElem?_pos, z0, z1, z2, hlt]) | ((first | refine AWp.ret ?_ | refine AWp.skip ?_ | refine AWp.exit ?_); try simp only [thenP]) | (with_reducible refine BB.go ?_; simp only [blockP, thenP, if_true, if_false, reduceIte]) | (with_reducible refine And.intro (show okLog _ _ = true from by kernel_rfl) ?_))
    (first | refine RR.ret ?_ | refine RR.normal ?_); simp [hm]
end Go.Proofs.Ytigpefjeelgfdaa.Eng
