/-
  A part of the texts that the claim builds on: see the last one.
-/
import Derived.Test.YtigpefjeelgfdaaDb5
set_option linter.unusedSimpArgs false
set_option linter.unusedVariables false
/-
  Walks of layer 1's statements: Works.
-/
namespace Go.Proofs.Ytigpefjeelgfdaa
open Go.RowKit

theorem house_ws {ws : List (List Kink)} (h : Hid (houseX.steps[1]? = some ws)) : Hid (ws = [[⟨0, 200, 300⟩, ⟨420, 280, 400⟩, ⟨550, 350, 480⟩]]) := by
  have := h.out
  simp only [houseX, List.getElem?_cons_succ, List.getElem?_cons_zero, Option.some.injEq] at this
  exact this.symm
theorem house_ks {ws : List (List Kink)} {ks : List Kink} (hw : Hid (ws = [[⟨0, 200, 300⟩, ⟨420, 280, 400⟩, ⟨550, 350, 480⟩]])) (h : Hid (ws[0]? = some ks)) : Hid (ks = [⟨0, 200, 300⟩, ⟨420, 280, 400⟩, ⟨550, 350, 480⟩]) := by
  have := h.out
  rw [hw.out] at this
  simp only [List.getElem?_cons_zero, Option.some.injEq] at this
  exact this.symm
theorem In.with_ {w w' : World} {B : Nat} {Ab As Ar : Option Addr} {cb cs cr : Nat} {x : Works} {ways : List Int} (h : In w B Ab As none cb cs 0 x []) (hb : Below w.heap.size w w') (hr : IntsA .i64 w' w'.heap.size Ar ways) (c1 : ways.length ≤ cr) (c2 : cr ≤ 9223372036854775807) :
    In w' w'.heap.size Ab As Ar cb cs cr x ways :=
  have hs : Same B w w' := Same.of_below (hb.mono h.le)
  have hz : B ≤ w'.heap.size := Nat.le_trans h.le hb.size
  ⟨SLa.keep h.bars hz fun _ _ _ hb hx => RgAt.keep hx hs hb, SLa.keep h.steps hz fun _ _ _ hlt ⟨u, h1, h2⟩ => ⟨u, (hs.cell hlt _).trans h1, h2.keep hs hz⟩, hr, h.cb1, h.cb2, h.cs1, h.cs2, c1, c2, Nat.le_refl _⟩
theorem zeros_box {w : World} {g : Nat} {t : TypeId} (h : Box w g t #[.int .i64 0, .int .i64 0]) : IntsA .i64 w w.heap.size (some ⟨g, 0, none⟩) [0, 0] := by
  obtain ⟨A, c, hv, _, _, hs⟩ := ints_box (k := .i64) (l := [0, 0]) (c := 2) h (by simp) (by simp)
  cases hv
  exact hs

theorem zeros_at {W v : World} (h : Below (W.drew.alloc (.cells #[.int .i64 0, .int .i64 0] 3)).heap.size (W.drew.alloc (.cells #[.int .i64 0, .int .i64 0] 3)) v) : IntsA .i64 v v.heap.size (some ⟨W.heap.size, 0, none⟩) [0, 0] :=
  zeros_box (t := 3) (Box.below (Box.new W.drew _ _) h (by simp only [World.size_alloc]; exact Nat.lt_succ_self _))
theorem houseRanges_read {Ab As Ar : Option Addr} {cb cs cr : Nat} {B : Nat} {w : World} (h : In w B Ab As Ar cb cs cr houseX [0, 0]) :
    CallsF 23 #[.agg #[.slice Ab houseX.bars.length cb, .slice As houseX.steps.length cs], .agg #[.int .i64 1, .slice Ar 2 cr]] w (Fact.res (Fact.rgs [(150, 300), (400, 600), (200, 480)]) 0) := by
  have h1 := heatRanges_read (bar := 1) h
  have e : endsL (rowOf houseX [0, 0] (barP houseX (1 : Int).toNat)) (houseX.steps.length + 1) = [(150, 300), (400, 600), (200, 480)] := houseRanges1
  rw [e, houseRec1] at h1
  exact h1
theorem houseHistory_read {Ab As Ar : Option Addr} {cb cs cr : Nat} {B : Nat} {w : World} (h : In w B Ab As Ar cb cs cr houseX [0, 0]) :
    CallsF 30 #[.agg #[.slice Ab houseX.bars.length cb, .slice As houseX.steps.length cs], .agg #[.int .i64 1, .slice Ar 2 cr], .agg #[.int .i64 410, .int .i64 420]] w (Fact.res (Fact.ints [180, 550, 410]) 0) := by
  have h1 := heatHistory_read (bar := 1) (lo := 410) (hi := 420) h
  rw [houseHistory, houseAgr1] at h1
  exact h1
theorem houseHistory0_read {Ab As Ar : Option Addr} {cb cs cr : Nat} {B : Nat} {w : World} (h : In w B Ab As Ar cb cs cr houseX [0, 0]) :
    CallsF 30 #[.agg #[.slice Ab houseX.bars.length cb, .slice As houseX.steps.length cs], .agg #[.int .i64 0, .slice Ar 2 cr], .agg #[.int .i64 410, .int .i64 420]] w (Fact.res Fact.any 17) := by
  have h1 := heatHistory_read (bar := 0) (lo := 410) (hi := 420) h
  rw [houseAgr0] at h1
  refine Calls.mono h1 ?_
  rintro e w' ⟨v, rfl, ⟨u, hu, _, h3⟩, hb⟩
  exact ⟨v, rfl, ⟨u, hu, fun _ => trivial, h3⟩, hb⟩
theorem houseHad_read {Ab As Ar : Option Addr} {cb cs cr : Nat} {B : Nat} {w : World} (h : In w B Ab As Ar cb cs cr houseX [0, 0]) :
    CallsF 28 #[.agg #[.slice Ab houseX.bars.length cb, .slice As houseX.steps.length cs], .agg #[.int .i64 1, .slice Ar 2 cr], .agg #[.int .i64 410, .int .i64 420]] w (Fact.res (Fact.rgs [(180, 300), (550, 600), (410, 420)]) 0) := by
  have h1 := heatHad_read (bar := 1) (lo := 410) (hi := 420) h
  have e : endsL (agrRows houseX 1 [0, 0] 410 420) (houseX.steps.length + 1) = [(180, 300), (550, 600), (410, 420)] := houseHad
  rw [e, houseAgr1] at h1
  exact h1
theorem houseBars_read {Ab As : Option Addr} {cb cs : Nat} {B : Nat} {w : World} (h : In w B Ab As none cb cs 0 houseX []) :
    CallsF 33 #[.agg #[.slice Ab houseX.bars.length cb, .slice As houseX.steps.length cs], .agg #[.int .i64 410, .int .i64 420]] w (Fact.res (Fact.ints [0, 1]) 0) := by
  have h1 := heatBars_read (mlo := 410) (mhi := 420) h
  rw [houseBars, houseSome] at h1
  exact h1
theorem houseWays_read {Ab As : Option Addr} {cb cs : Nat} {B : Nat} {w : World} (h : In w B Ab As none cb cs 0 houseX []) :
    CallsF 35 #[.agg #[.slice Ab houseX.bars.length cb, .slice As houseX.steps.length cs], .agg #[.int .i64 410, .int .i64 420]] w (Fact.res (Fact.lists [[0, 1], [0]]) 0) := by
  have h1 := heatWays_read (mlo := 410) (mhi := 420) h
  have e : ((List.range houseX.steps.length).map fun (i : Nat) => leftN houseX 410 420 i) = [[0, 1], [0]] := by
    show [leftN houseX 410 420 ((0 : Nat) : Int), leftN houseX 410 420 ((1 : Nat) : Int)] = _
    rw [show ((0 : Nat) : Int) = 0 from rfl, show ((1 : Nat) : Int) = 1 from rfl, houseLeft0, houseLeft1]
  rw [e, houseSome] at h1
  exact h1
theorem houseCheck {h0 h1 h2 r : Int} (hr : histErr houseX 1 [0, 0] [h0, h1, h2] = r) {Ab As Ar Ah : Option Addr} {cb cs cr ch B : Nat} {w : World} (h : In w B Ab As Ar cb cs cr houseX [0, 0]) (hh : IntsA .i64 w B Ah [h0, h1, h2]) (c1 : 3 ≤ ch) (c2 : ch ≤ 9223372036854775807) :
    CallsF 26 #[.agg #[.slice Ab houseX.bars.length cb, .slice As houseX.steps.length cs], .agg #[.int .i64 1, .slice Ar 2 cr], .slice Ah 3 ch] w (Fact.eq (.int .i64 r)) := by
  have := heatCheckHistory_any Ab As Ar Ah cb cs cr ch houseX 1 [0, 0] [h0, h1, h2] B w h hh c1 c2
  rw [hr] at this
  refine Calls.mono this ?_
  rintro e w' ⟨rfl, hb⟩
  exact ⟨_, rfl, rfl, hb⟩
theorem houseCount_read {Ab As : Option Addr} {cb cs : Nat} {B : Nat} {w : World} (h : In w B Ab As none cb cs 0 houseX []) :
    Calls Try.prog 37 #[.agg #[.slice Ab houseX.bars.length cb, .slice As houseX.steps.length cs], .agg #[.int .i64 410, .int .i64 420]] w fun e w' => e = .returned (.tuple #[.int .i64 3, .int .i64 0]) ∧ Below w.heap.size w w' := by
  have := heatCount_any Ab As cb cs houseX 410 420 B w h
  rw [houseMak, houseTot] at this
  exact this
theorem houseAsk_read {Ab As : Option Addr} {cb cs : Nat} {B : Nat} {w : World} (h : In w B Ab As none cb cs 0 houseX []) :
    Calls Try.prog 41 #[.agg #[.slice Ab houseX.bars.length cb, .slice As houseX.steps.length cs], .agg #[.int .i64 410, .int .i64 420]] w fun e w' => e = .returned (.tuple #[.int .i64 (-1), .int .i64 2, .int .i64 0]) ∧ Below w.heap.size w w' := by
  have := heatAsk_any Ab As cb cs houseX 410 420 B w h
  rw [houseAsk] at this
  exact this
theorem houseAgrees {Ab As Ar Ah : Option Addr} {cb cs cr ch B : Nat} {w : World} (h : In w B Ab As Ar cb cs cr houseX [0, 0]) (hh : IntsA .i64 w B Ah [180, 550, 410]) (c1 : 3 ≤ ch) (c2 : ch ≤ 9223372036854775807) :
    Calls Try.prog 31 #[.agg #[.slice Ab houseX.bars.length cb, .slice As houseX.steps.length cs], .agg #[.int .i64 1, .slice Ar 2 cr], .slice Ah 3 ch, .agg #[.int .i64 410, .int .i64 420]] w fun e w' => e = .returned (.bool true) ∧ Below w.heap.size w w' :=
  agrees_true Ab As Ar Ah cb cs cr ch houseX 1 [0, 0] [180, 550, 410] 410 420 B w h hh c1 c2 (Lib.hid houseRec1) (Lib.hid rfl) (Lib.hid houseHist3) (Lib.hid (by decide))
theorem wp_join {c : Code} {K : Act → World → Prop} {Q : Exit → Act → World → Prop} {a : Act} {w : World} (R : Act → Act → World → Prop) (h1 : c.wp Try.prog (Exit.then (R a) Q) a w) (h2 : ∀ a' w', R a a' w' → Exit.then K Q .normal a' w') : c.wp Try.prog (Exit.then K Q) a w :=
  Code.wp_mono (fun e a w h => by cases e <;> first | exact h2 _ _ h | exact h) h1
set_option maxRecDepth 100000 in
set_option maxHeartbeats 4000000 in
theorem works_any (w : World) : Calls Try.prog 16 #[] w fun e w' => e = .returned (.bool true) ∧ Below w.heap.size w w' := by
  go_enter Try.func16, Try.ntmps16
  go_wp2_with (first
    | (go_at_call 52; refine (house_any _).mono ?_; rintro e w1 ⟨Ab, As, cb, cs, rfl, hin, hb1⟩)
    | (go_at_call 48; refine (rg_any _ _ _).mono ?_; rintro e w2 ⟨rfl, hb2⟩; obtain ⟨sb, so, A1, c1, ws, rfl, hsb, hws, d1, l1, l2, hwsA⟩ := stepsA hin.steps (i := 1) (by decide); have hwe := house_ws hws; obtain ⟨kb, ko, A2, c2, ks, rfl, hkb, hks, d2, l3, l4, hksA⟩ := waysA hwsA (i := 0) (by rw [hwe.out]; simp); have hke := house_ks hwe hks; have i1 : (1 : Int) < (houseX.steps.length : Int) := (by decide); have i2 : (0 : Int) < (ws.length : Int) := (by rw [hwe.out]; simp); have z2 := hb2.size; have y1 : sb < w2.heap.size := (by omega); have y2 : kb < w2.heap.size := (by omega); have d1' := (hb2.cell (p := ⟨sb, so + 1, none⟩) hsb).trans d1; have d2' := (hb2.cell (p := ⟨kb, ko + 0, none⟩) hkb).trans d2; simp only [Nat.add_zero] at d2')
    | (go_at_call 17; refine (heatAfterX_any A2 c2 ks 420 w1.heap.size _ (kinks_on hksA (n := w1.heap.size) bel (Nat.le_refl _)) l3 l4 (by (focus (first | omega | (simp only [World.size_alloc, World.size_setCell, World.size_drew, World.heap_drewN]; first | done | omega))))).mono ?_; rintro e w3 ⟨rfl, hb3⟩; rw [hke.out, houseAft]))
  have z1 := hb1.size
  have z3 := hb3.size
  simp only [World.size_alloc] at z3
  have hbW : Below w.heap.size w (w3.alloc (.cells #[.int .i64 280, .int .i64 400] 33)) := bel
  have hbW1 : Below w1.heap.size w1 (w3.alloc (.cells #[.int .i64 280, .int .i64 400] 33)) := bel
  have BW : Box (w3.alloc (.cells #[.int .i64 280, .int .i64 400] 33)) w2.heap.size 25 #[.slice Ab houseX.bars.length cb, .slice (some ⟨sb, so, none⟩) houseX.steps.length cs] := by exact bxt
  have BM : Box (w3.alloc (.cells #[.int .i64 280, .int .i64 400] 33)) (w2.heap.size + 1) 33 #[.int .i64 410, .int .i64 420] := by exact bxt
  have BA : Box (w3.alloc (.cells #[.int .i64 280, .int .i64 400] 33)) w3.heap.size 33 #[.int .i64 280, .int .i64 400] := Box.new _ _ _
  generalize w3.alloc (.cells #[.int .i64 280, .int .i64 400] 33) = W at hbW hbW1 BW BM BA ⊢
  generalize w2.heap.size = t1 at BW BM ⊢
  generalize w3.heap.size = t3 at BA ⊢
  clear d1 d2 d1' d2' hb2 hb3 y1 y2 z1 z2 z3 hksA hwsA hks hws hke hwe
  have q1 := BW.lt
  have q2 := BM.lt
  have q3 := BA.lt
  obtain ⟨c0, c1, f0, f1⟩ := BW.two
  have hS : ∀ V, Below W.heap.size W V → V.cell? ⟨t1, 0, none⟩ = some (.slice Ab houseX.bars.length cb) ∧ V.cell? ⟨t1, 0 + 1, none⟩ = some (.slice (some ⟨sb, so, none⟩) houseX.steps.length cs) := fun V hV => ⟨(Box.below BW hV q1).cell 0, (Box.below BW hV q1).cell 1⟩
  have HS := Lib.hid hS
  clear hS
  -- generated from here
  have hM : ∀ V, Below W.heap.size W V → V.cell? ⟨t1 + 1, 0, none⟩ = some (.int .i64 410) ∧ V.cell? ⟨t1 + 1, 0 + 1, none⟩ = some (.int .i64 420) := fun V hV => ⟨(Box.below BM hV q2).cell 0, (Box.below BM hV q2).cell 1⟩
  have HM := Lib.hid hM
  clear hM
  have hA : ∀ V, Below W.heap.size W V → V.cell? ⟨t3, 0, none⟩ = some (.int .i64 280) ∧ V.cell? ⟨t3, 0 + 1, none⟩ = some (.int .i64 400) := fun V hV => ⟨(Box.below BA hV q3).cell 0, (Box.below BA hV q3).cell 1⟩
  have HA := Lib.hid hA
  clear hA
  have hI : ∀ V, Below W.heap.size W V → In V V.heap.size Ab (some ⟨sb, so, none⟩) none cb cs 0 houseX [] := fun V hV => hin.with_ (hbW1.trans (hV.mono hbW1.size)) (fun h => absurd h (by simp)) (by simp) (by decide)
  have HI := Lib.hid hI
  clear hI hin hbW1 c0 c1 f0 f1 BW BM BA q1 q2 q3
  have g2 : Below W.heap.size W W := Below.refl _ _
  -- region 3
  refine wp_region_facts (F := ?_) [Fact.eq (.agg #[.slice Ab houseX.bars.length cb, .slice (some ⟨sb, so, none⟩) houseX.steps.length cs]), Fact.ints [0, 0], Fact.second (.int .i64 1) (Fact.ints [0, 0]), Fact.res (Fact.rgs [(150, 300), (400, 600), (200, 480)]) 0, Fact.res (Fact.rgs [(150, 300), (400, 600), (200, 480)]) 0, Fact.rgs [(150, 300), (400, 600), (200, 480)], Fact.eq (.int .i64 0), Fact.rgs [(150, 300), (400, 600), (200, 480)], Fact.eq (.int .i64 0)] (by kernel_rfl) (by kernel_rfl) (by kernel_rfl) (by intro x; simp only [List.map_cons, List.map_nil, putAll, Act.put, List.setIfInBounds_toArray, List.set_cons_zero, List.set_cons_succ, Nat.zero_add, Nat.reduceAdd]; rfl) ?_ ?_
  · refine StepsF.cons (fun x V hV hp K hK => ?_) ?_
    · obtain ⟨_c0, _c1⟩ := HS.out V (g2.trans (hV.mono g2.size))
      go_simp
      exact hK.out _ _ rfl (Below.refl _ _)
    refine StepsF.cons (fun x V hV hp K hK => ?_) ?_
    · go_simp
      exact hK.out _ _ (ints_box (l := [0, 0]) (Box.new _ _ _) (by simp) (by decide)) ((Below.refl _ _).alloc (Nat.le_refl _) _)
    refine StepsF.cons (fun x V hV hp K hK => ?_) ?_
    · obtain ⟨zA, zc, _hv, zk1, zk2, zks⟩ := depsAll_get hp 1 (by kernel_rfl); (try simp only [List.length_cons, List.length_nil, Nat.zero_add, Nat.reduceAdd] at _hv zk1); generalize x 1 = _y at _hv hK ⊢; subst _hv
      go_simp
      refine (recipe_laid _ _ _ _ _).mono ?_
      rintro e v1 ⟨rfl, hb⟩
      exact hK.out _ _ ⟨_, rfl, Fact.keep (Fact.ints [0, 0]) _ _ _ hb ⟨zA, zc, rfl, zk1, zk2, zks⟩⟩ hb
    refine StepsF.cons (fun x V hV hp K hK => ?_) ?_
    · have _e := depsAll_get hp 0 (by kernel_rfl); change x 0 = _ at _e; generalize x 0 = _y at _e hK ⊢; subst _e
      obtain ⟨_u, _hu, _A, _c, _hv, _k1, _k2, _ks⟩ := depsAll_get hp 2 (by kernel_rfl); (try simp only [List.length_cons, List.length_nil, Nat.zero_add, Nat.reduceAdd] at _hv _k1); subst _hv; generalize x 2 = _y at _hu hK ⊢; subst _hu
      go_simp
      refine Calls.mono (houseRanges_read ((HI.out V (g2.trans (hV.mono g2.size))).with_ (Below.refl _ _) _ks _k1 _k2)) ?_
      rintro e v1 ⟨v, rfl, hv, hb⟩
      exact hK.out _ _ hv hb
    refine StepsF.cons (fun x V hV hp K hK => ?_) ?_
    · obtain ⟨_u, _hu, _H⟩ := depsAll_get hp 3 (by kernel_rfl); replace _H := Lib.hid _H; generalize x 3 = _y at _hu hK ⊢; subst _hu
      go_simp
      exact hK.out _ _ ⟨_u, rfl, _H.out.1, _H.out.2⟩ (Below.refl _ _)
    refine StepsF.cons (fun x V hV hp K hK => ?_) ?_
    · obtain ⟨_u, _hu, _H⟩ := depsAll_get hp 4 (by kernel_rfl); replace _H := Lib.hid _H; generalize x 4 = _y at _hu hK ⊢; subst _hu
      go_simp
      exact hK.out _ _ (_H.out.1 rfl) (Below.refl _ _)
    refine StepsF.cons (fun x V hV hp K hK => ?_) ?_
    · obtain ⟨_u, _hu, _H⟩ := depsAll_get hp 4 (by kernel_rfl); replace _H := Lib.hid _H; generalize x 4 = _y at _hu hK ⊢; subst _hu
      go_simp
      exact hK.out _ _ rfl (Below.refl _ _)
    refine StepsF.cons (fun x V hV hp K hK => ?_) ?_
    · have _p := depsAll_get hp 5 (by kernel_rfl)
      go_simp
      exact hK.out _ _ _p (Below.refl _ _)
    refine StepsF.cons (fun x V hV hp K hK => ?_) ?_
    · have _e := depsAll_get hp 6 (by kernel_rfl); change x 6 = _ at _e; generalize x 6 = _y at _e hK ⊢; subst _e
      go_simp
      exact hK.out _ _ rfl (Below.refl _ _)
    exact StepsF.nil
  intro x v3 hV hall
  have g3 : Below W.heap.size W v3 := g2.trans (hV.mono g2.size)
  have _e := hall 8 (by decide)
  change x 8 = _ at _e
  generalize x 8 = _y at _e ⊢
  subst _e
  have p3 := hall 7 (by decide)
  generalize x 7 = r3 at p3 ⊢
  have P3 := Lib.hid p3
  clear p3
  have D3 := Lib.hid hV
  clear hV hall
  go_wp2_with fail
  -- region 4
  refine wp_region_facts (F := ?_) [Fact.eq (.agg #[.slice Ab houseX.bars.length cb, .slice (some ⟨sb, so, none⟩) houseX.steps.length cs]), Fact.ints [0, 0], Fact.second (.int .i64 1) (Fact.ints [0, 0]), Fact.ints [200, 560, 415], Fact.eq (.int .i64 0), Fact.eq (.int .i64 0)] (by kernel_rfl) (by kernel_rfl) (by kernel_rfl) (by intro x; simp only [List.map_cons, List.map_nil, putAll, Act.put, List.setIfInBounds_toArray, List.set_cons_zero, List.set_cons_succ, Nat.zero_add, Nat.reduceAdd]; rfl) ?_ ?_
  · refine StepsF.cons (fun x V hV hp K hK => ?_) ?_
    · obtain ⟨_c0, _c1⟩ := HS.out V (g3.trans (hV.mono g3.size))
      go_simp
      exact hK.out _ _ rfl (Below.refl _ _)
    refine StepsF.cons (fun x V hV hp K hK => ?_) ?_
    · go_simp
      exact hK.out _ _ (ints_box (l := [0, 0]) (Box.new _ _ _) (by simp) (by decide)) ((Below.refl _ _).alloc (Nat.le_refl _) _)
    refine StepsF.cons (fun x V hV hp K hK => ?_) ?_
    · obtain ⟨zA, zc, _hv, zk1, zk2, zks⟩ := depsAll_get hp 1 (by kernel_rfl); (try simp only [List.length_cons, List.length_nil, Nat.zero_add, Nat.reduceAdd] at _hv zk1); generalize x 1 = _y at _hv hK ⊢; subst _hv
      go_simp
      refine (recipe_laid _ _ _ _ _).mono ?_
      rintro e v1 ⟨rfl, hb⟩
      exact hK.out _ _ ⟨_, rfl, Fact.keep (Fact.ints [0, 0]) _ _ _ hb ⟨zA, zc, rfl, zk1, zk2, zks⟩⟩ hb
    refine StepsF.cons (fun x V hV hp K hK => ?_) ?_
    · go_simp
      exact hK.out _ _ (ints_box (l := [200, 560, 415]) (Box.new _ _ _) (by simp) (by decide)) ((Below.refl _ _).alloc (Nat.le_refl _) _)
    refine StepsF.cons (fun x V hV hp K hK => ?_) ?_
    · have _e := depsAll_get hp 0 (by kernel_rfl); change x 0 = _ at _e; generalize x 0 = _y at _e hK ⊢; subst _e
      obtain ⟨yA, yc, _hv, yk1, yk2, yks⟩ := depsAll_get hp 3 (by kernel_rfl); (try simp only [List.length_cons, List.length_nil, Nat.zero_add, Nat.reduceAdd] at _hv yk1); generalize x 3 = _y at _hv hK ⊢; subst _hv
      obtain ⟨_u, _hu, _A, _c, _hv, _k1, _k2, _ks⟩ := depsAll_get hp 2 (by kernel_rfl); (try simp only [List.length_cons, List.length_nil, Nat.zero_add, Nat.reduceAdd] at _hv _k1); subst _hv; generalize x 2 = _y at _hu hK ⊢; subst _hu
      go_simp
      refine Calls.mono (houseCheck houseHist1 ((HI.out V (g3.trans (hV.mono g3.size))).with_ (Below.refl _ _) _ks _k1 _k2) yks yk1 yk2) ?_
      rintro e v1 ⟨v, rfl, hv, hb⟩
      exact hK.out _ _ hv hb
    refine StepsF.cons (fun x V hV hp K hK => ?_) ?_
    · have _e := depsAll_get hp 4 (by kernel_rfl); change x 4 = _ at _e; generalize x 4 = _y at _e hK ⊢; subst _e
      go_simp
      exact hK.out _ _ rfl (Below.refl _ _)
    exact StepsF.nil
  intro x v4 hV hall
  have g4 : Below W.heap.size W v4 := g3.trans (hV.mono g3.size)
  have _e := hall 5 (by decide)
  change x 5 = _ at _e
  generalize x 5 = _y at _e ⊢
  subst _e
  have D4 := Lib.hid hV
  clear hV hall
  go_wp2_with fail
  -- region 5
  refine wp_region_facts (F := ?_) [Fact.eq (.agg #[.slice Ab houseX.bars.length cb, .slice (some ⟨sb, so, none⟩) houseX.steps.length cs]), Fact.ints [0, 0], Fact.second (.int .i64 1) (Fact.ints [0, 0]), Fact.ints [160, 560, 415], Fact.eq (.int .i64 16), Fact.eq (.int .i64 16)] (by kernel_rfl) (by kernel_rfl) (by kernel_rfl) (by intro x; simp only [List.map_cons, List.map_nil, putAll, Act.put, List.setIfInBounds_toArray, List.set_cons_zero, List.set_cons_succ, Nat.zero_add, Nat.reduceAdd]; rfl) ?_ ?_
  · refine StepsF.cons (fun x V hV hp K hK => ?_) ?_
    · obtain ⟨_c0, _c1⟩ := HS.out V (g4.trans (hV.mono g4.size))
      go_simp
      exact hK.out _ _ rfl (Below.refl _ _)
    refine StepsF.cons (fun x V hV hp K hK => ?_) ?_
    · go_simp
      exact hK.out _ _ (ints_box (l := [0, 0]) (Box.new _ _ _) (by simp) (by decide)) ((Below.refl _ _).alloc (Nat.le_refl _) _)
    refine StepsF.cons (fun x V hV hp K hK => ?_) ?_
    · obtain ⟨zA, zc, _hv, zk1, zk2, zks⟩ := depsAll_get hp 1 (by kernel_rfl); (try simp only [List.length_cons, List.length_nil, Nat.zero_add, Nat.reduceAdd] at _hv zk1); generalize x 1 = _y at _hv hK ⊢; subst _hv
      go_simp
      refine (recipe_laid _ _ _ _ _).mono ?_
      rintro e v1 ⟨rfl, hb⟩
      exact hK.out _ _ ⟨_, rfl, Fact.keep (Fact.ints [0, 0]) _ _ _ hb ⟨zA, zc, rfl, zk1, zk2, zks⟩⟩ hb
    refine StepsF.cons (fun x V hV hp K hK => ?_) ?_
    · go_simp
      exact hK.out _ _ (ints_box (l := [160, 560, 415]) (Box.new _ _ _) (by simp) (by decide)) ((Below.refl _ _).alloc (Nat.le_refl _) _)
    refine StepsF.cons (fun x V hV hp K hK => ?_) ?_
    · have _e := depsAll_get hp 0 (by kernel_rfl); change x 0 = _ at _e; generalize x 0 = _y at _e hK ⊢; subst _e
      obtain ⟨yA, yc, _hv, yk1, yk2, yks⟩ := depsAll_get hp 3 (by kernel_rfl); (try simp only [List.length_cons, List.length_nil, Nat.zero_add, Nat.reduceAdd] at _hv yk1); generalize x 3 = _y at _hv hK ⊢; subst _hv
      obtain ⟨_u, _hu, _A, _c, _hv, _k1, _k2, _ks⟩ := depsAll_get hp 2 (by kernel_rfl); (try simp only [List.length_cons, List.length_nil, Nat.zero_add, Nat.reduceAdd] at _hv _k1); subst _hv; generalize x 2 = _y at _hu hK ⊢; subst _hu
      go_simp
      refine Calls.mono (houseCheck houseHist2 ((HI.out V (g4.trans (hV.mono g4.size))).with_ (Below.refl _ _) _ks _k1 _k2) yks yk1 yk2) ?_
      rintro e v1 ⟨v, rfl, hv, hb⟩
      exact hK.out _ _ hv hb
    refine StepsF.cons (fun x V hV hp K hK => ?_) ?_
    · have _e := depsAll_get hp 4 (by kernel_rfl); change x 4 = _ at _e; generalize x 4 = _y at _e hK ⊢; subst _e
      go_simp
      exact hK.out _ _ rfl (Below.refl _ _)
    exact StepsF.nil
  intro x v5 hV hall
  have g5 : Below W.heap.size W v5 := g4.trans (hV.mono g4.size)
  have _e := hall 5 (by decide)
  change x 5 = _ at _e
  generalize x 5 = _y at _e ⊢
  subst _e
  have D5 := Lib.hid hV
  clear hV hall
  go_wp2_with fail
  -- region 6
  refine wp_region_facts (F := ?_) [Fact.eq (.agg #[.slice Ab houseX.bars.length cb, .slice (some ⟨sb, so, none⟩) houseX.steps.length cs]), Fact.ints [0, 0], Fact.second (.int .i64 1) (Fact.ints [0, 0]), Fact.eq (.agg #[.int .i64 410, .int .i64 420]), Fact.res (Fact.ints [180, 550, 410]) 0, Fact.res (Fact.ints [180, 550, 410]) 0, Fact.ints [180, 550, 410], Fact.eq (.int .i64 0), Fact.ints [180, 550, 410], Fact.eq (.int .i64 0)] (by kernel_rfl) (by kernel_rfl) (by kernel_rfl) (by intro x; simp only [List.map_cons, List.map_nil, putAll, Act.put, List.setIfInBounds_toArray, List.set_cons_zero, List.set_cons_succ, Nat.zero_add, Nat.reduceAdd]; rfl) ?_ ?_
  · refine StepsF.cons (fun x V hV hp K hK => ?_) ?_
    · obtain ⟨_c0, _c1⟩ := HS.out V (g5.trans (hV.mono g5.size))
      go_simp
      exact hK.out _ _ rfl (Below.refl _ _)
    refine StepsF.cons (fun x V hV hp K hK => ?_) ?_
    · go_simp
      exact hK.out _ _ (ints_box (l := [0, 0]) (Box.new _ _ _) (by simp) (by decide)) ((Below.refl _ _).alloc (Nat.le_refl _) _)
    refine StepsF.cons (fun x V hV hp K hK => ?_) ?_
    · obtain ⟨zA, zc, _hv, zk1, zk2, zks⟩ := depsAll_get hp 1 (by kernel_rfl); (try simp only [List.length_cons, List.length_nil, Nat.zero_add, Nat.reduceAdd] at _hv zk1); generalize x 1 = _y at _hv hK ⊢; subst _hv
      go_simp
      refine (recipe_laid _ _ _ _ _).mono ?_
      rintro e v1 ⟨rfl, hb⟩
      exact hK.out _ _ ⟨_, rfl, Fact.keep (Fact.ints [0, 0]) _ _ _ hb ⟨zA, zc, rfl, zk1, zk2, zks⟩⟩ hb
    refine StepsF.cons (fun x V hV hp K hK => ?_) ?_
    · obtain ⟨_c0, _c1⟩ := HM.out V (g5.trans (hV.mono g5.size))
      go_simp
      exact hK.out _ _ rfl (Below.refl _ _)
    refine StepsF.cons (fun x V hV hp K hK => ?_) ?_
    · have _e := depsAll_get hp 0 (by kernel_rfl); change x 0 = _ at _e; generalize x 0 = _y at _e hK ⊢; subst _e
      have _e := depsAll_get hp 3 (by kernel_rfl); change x 3 = _ at _e; generalize x 3 = _y at _e hK ⊢; subst _e
      obtain ⟨_u, _hu, _A, _c, _hv, _k1, _k2, _ks⟩ := depsAll_get hp 2 (by kernel_rfl); (try simp only [List.length_cons, List.length_nil, Nat.zero_add, Nat.reduceAdd] at _hv _k1); subst _hv; generalize x 2 = _y at _hu hK ⊢; subst _hu
      go_simp
      refine Calls.mono (houseHistory_read ((HI.out V (g5.trans (hV.mono g5.size))).with_ (Below.refl _ _) _ks _k1 _k2)) ?_
      rintro e v1 ⟨v, rfl, hv, hb⟩
      exact hK.out _ _ hv hb
    refine StepsF.cons (fun x V hV hp K hK => ?_) ?_
    · obtain ⟨_u, _hu, _H⟩ := depsAll_get hp 4 (by kernel_rfl); replace _H := Lib.hid _H; generalize x 4 = _y at _hu hK ⊢; subst _hu
      go_simp
      exact hK.out _ _ ⟨_u, rfl, _H.out.1, _H.out.2⟩ (Below.refl _ _)
    refine StepsF.cons (fun x V hV hp K hK => ?_) ?_
    · obtain ⟨_u, _hu, _H⟩ := depsAll_get hp 5 (by kernel_rfl); replace _H := Lib.hid _H; generalize x 5 = _y at _hu hK ⊢; subst _hu
      go_simp
      exact hK.out _ _ (_H.out.1 rfl) (Below.refl _ _)
    refine StepsF.cons (fun x V hV hp K hK => ?_) ?_
    · obtain ⟨_u, _hu, _H⟩ := depsAll_get hp 5 (by kernel_rfl); replace _H := Lib.hid _H; generalize x 5 = _y at _hu hK ⊢; subst _hu
      go_simp
      exact hK.out _ _ rfl (Below.refl _ _)
    refine StepsF.cons (fun x V hV hp K hK => ?_) ?_
    · have _p := depsAll_get hp 6 (by kernel_rfl)
      go_simp
      exact hK.out _ _ _p (Below.refl _ _)
    refine StepsF.cons (fun x V hV hp K hK => ?_) ?_
    · have _e := depsAll_get hp 7 (by kernel_rfl); change x 7 = _ at _e; generalize x 7 = _y at _e hK ⊢; subst _e
      go_simp
      exact hK.out _ _ rfl (Below.refl _ _)
    exact StepsF.nil
  intro x v6 hV hall
  have g6 : Below W.heap.size W v6 := g5.trans (hV.mono g5.size)
  have _e := hall 9 (by decide)
  change x 9 = _ at _e
  generalize x 9 = _y at _e ⊢
  subst _e
  have p6 := hall 8 (by decide)
  generalize x 8 = r6 at p6 ⊢
  have P6 := Lib.hid p6
  clear p6
  have D6 := Lib.hid hV
  clear hV hall
  go_wp2_with fail
  -- region 7
  refine wp_region_facts (F := ?_) [Fact.eq (.agg #[.slice Ab houseX.bars.length cb, .slice (some ⟨sb, so, none⟩) houseX.steps.length cs]), Fact.ints [0, 0], Fact.second (.int .i64 0) (Fact.ints [0, 0]), Fact.eq (.agg #[.int .i64 410, .int .i64 420]), Fact.res (Fact.any) 17, Fact.res (Fact.any) 17, Fact.any, Fact.eq (.int .i64 17), Fact.any, Fact.eq (.int .i64 17)] (by kernel_rfl) (by kernel_rfl) (by kernel_rfl) (by intro x; simp only [List.map_cons, List.map_nil, putAll, Act.put, List.setIfInBounds_toArray, List.set_cons_zero, List.set_cons_succ, Nat.zero_add, Nat.reduceAdd]; rfl) ?_ ?_
  · refine StepsF.cons (fun x V hV hp K hK => ?_) ?_
    · obtain ⟨_c0, _c1⟩ := HS.out V (g6.trans (hV.mono g6.size))
      go_simp
      exact hK.out _ _ rfl (Below.refl _ _)
    refine StepsF.cons (fun x V hV hp K hK => ?_) ?_
    · go_simp
      exact hK.out _ _ (ints_box (l := [0, 0]) (Box.new _ _ _) (by simp) (by decide)) ((Below.refl _ _).alloc (Nat.le_refl _) _)
    refine StepsF.cons (fun x V hV hp K hK => ?_) ?_
    · obtain ⟨zA, zc, _hv, zk1, zk2, zks⟩ := depsAll_get hp 1 (by kernel_rfl); (try simp only [List.length_cons, List.length_nil, Nat.zero_add, Nat.reduceAdd] at _hv zk1); generalize x 1 = _y at _hv hK ⊢; subst _hv
      go_simp
      refine (recipe_laid _ _ _ _ _).mono ?_
      rintro e v1 ⟨rfl, hb⟩
      exact hK.out _ _ ⟨_, rfl, Fact.keep (Fact.ints [0, 0]) _ _ _ hb ⟨zA, zc, rfl, zk1, zk2, zks⟩⟩ hb
    refine StepsF.cons (fun x V hV hp K hK => ?_) ?_
    · obtain ⟨_c0, _c1⟩ := HM.out V (g6.trans (hV.mono g6.size))
      go_simp
      exact hK.out _ _ rfl (Below.refl _ _)
    refine StepsF.cons (fun x V hV hp K hK => ?_) ?_
    · have _e := depsAll_get hp 0 (by kernel_rfl); change x 0 = _ at _e; generalize x 0 = _y at _e hK ⊢; subst _e
      have _e := depsAll_get hp 3 (by kernel_rfl); change x 3 = _ at _e; generalize x 3 = _y at _e hK ⊢; subst _e
      obtain ⟨_u, _hu, _A, _c, _hv, _k1, _k2, _ks⟩ := depsAll_get hp 2 (by kernel_rfl); (try simp only [List.length_cons, List.length_nil, Nat.zero_add, Nat.reduceAdd] at _hv _k1); subst _hv; generalize x 2 = _y at _hu hK ⊢; subst _hu
      go_simp
      refine Calls.mono (houseHistory0_read ((HI.out V (g6.trans (hV.mono g6.size))).with_ (Below.refl _ _) _ks _k1 _k2)) ?_
      rintro e v1 ⟨v, rfl, hv, hb⟩
      exact hK.out _ _ hv hb
    refine StepsF.cons (fun x V hV hp K hK => ?_) ?_
    · obtain ⟨_u, _hu, _H⟩ := depsAll_get hp 4 (by kernel_rfl); replace _H := Lib.hid _H; generalize x 4 = _y at _hu hK ⊢; subst _hu
      go_simp
      exact hK.out _ _ ⟨_u, rfl, _H.out.1, _H.out.2⟩ (Below.refl _ _)
    refine StepsF.cons (fun x V hV hp K hK => ?_) ?_
    · obtain ⟨_u, _hu, _H⟩ := depsAll_get hp 5 (by kernel_rfl); replace _H := Lib.hid _H; generalize x 5 = _y at _hu hK ⊢; subst _hu
      go_simp
      exact hK.out _ _ (trivial) (Below.refl _ _)
    refine StepsF.cons (fun x V hV hp K hK => ?_) ?_
    · obtain ⟨_u, _hu, _H⟩ := depsAll_get hp 5 (by kernel_rfl); replace _H := Lib.hid _H; generalize x 5 = _y at _hu hK ⊢; subst _hu
      go_simp
      exact hK.out _ _ rfl (Below.refl _ _)
    refine StepsF.cons (fun x V hV hp K hK => ?_) ?_
    · have _p := depsAll_get hp 6 (by kernel_rfl)
      go_simp
      exact hK.out _ _ _p (Below.refl _ _)
    refine StepsF.cons (fun x V hV hp K hK => ?_) ?_
    · have _e := depsAll_get hp 7 (by kernel_rfl); change x 7 = _ at _e; generalize x 7 = _y at _e hK ⊢; subst _e
      go_simp
      exact hK.out _ _ rfl (Below.refl _ _)
    exact StepsF.nil
  intro x v7 hV hall
  have g7 : Below W.heap.size W v7 := g6.trans (hV.mono g6.size)
  have _e := hall 9 (by decide)
  change x 9 = _ at _e
  generalize x 9 = _y at _e ⊢
  subst _e
  have p7 := hall 8 (by decide)
  generalize x 8 = r7 at p7 ⊢
  have P7 := Lib.hid p7
  clear p7
  have D7 := Lib.hid hV
  clear hV hall
  go_wp2_with fail
  -- region 8
  refine wp_region_facts (F := ?_) [Fact.eq (.agg #[.slice Ab houseX.bars.length cb, .slice (some ⟨sb, so, none⟩) houseX.steps.length cs]), Fact.ints [0, 0], Fact.second (.int .i64 1) (Fact.ints [0, 0]), Fact.eq (.agg #[.int .i64 410, .int .i64 420]), Fact.res (Fact.rgs [(180, 300), (550, 600), (410, 420)]) 0, Fact.res (Fact.rgs [(180, 300), (550, 600), (410, 420)]) 0, Fact.rgs [(180, 300), (550, 600), (410, 420)], Fact.eq (.int .i64 0), Fact.rgs [(180, 300), (550, 600), (410, 420)], Fact.eq (.int .i64 0)] (by kernel_rfl) (by kernel_rfl) (by kernel_rfl) (by intro x; simp only [List.map_cons, List.map_nil, putAll, Act.put, List.setIfInBounds_toArray, List.set_cons_zero, List.set_cons_succ, Nat.zero_add, Nat.reduceAdd]; rfl) ?_ ?_
  · refine StepsF.cons (fun x V hV hp K hK => ?_) ?_
    · obtain ⟨_c0, _c1⟩ := HS.out V (g7.trans (hV.mono g7.size))
      go_simp
      exact hK.out _ _ rfl (Below.refl _ _)
    refine StepsF.cons (fun x V hV hp K hK => ?_) ?_
    · go_simp
      exact hK.out _ _ (ints_box (l := [0, 0]) (Box.new _ _ _) (by simp) (by decide)) ((Below.refl _ _).alloc (Nat.le_refl _) _)
    refine StepsF.cons (fun x V hV hp K hK => ?_) ?_
    · obtain ⟨zA, zc, _hv, zk1, zk2, zks⟩ := depsAll_get hp 1 (by kernel_rfl); (try simp only [List.length_cons, List.length_nil, Nat.zero_add, Nat.reduceAdd] at _hv zk1); generalize x 1 = _y at _hv hK ⊢; subst _hv
      go_simp
      refine (recipe_laid _ _ _ _ _).mono ?_
      rintro e v1 ⟨rfl, hb⟩
      exact hK.out _ _ ⟨_, rfl, Fact.keep (Fact.ints [0, 0]) _ _ _ hb ⟨zA, zc, rfl, zk1, zk2, zks⟩⟩ hb
    refine StepsF.cons (fun x V hV hp K hK => ?_) ?_
    · obtain ⟨_c0, _c1⟩ := HM.out V (g7.trans (hV.mono g7.size))
      go_simp
      exact hK.out _ _ rfl (Below.refl _ _)
    refine StepsF.cons (fun x V hV hp K hK => ?_) ?_
    · have _e := depsAll_get hp 0 (by kernel_rfl); change x 0 = _ at _e; generalize x 0 = _y at _e hK ⊢; subst _e
      have _e := depsAll_get hp 3 (by kernel_rfl); change x 3 = _ at _e; generalize x 3 = _y at _e hK ⊢; subst _e
      obtain ⟨_u, _hu, _A, _c, _hv, _k1, _k2, _ks⟩ := depsAll_get hp 2 (by kernel_rfl); (try simp only [List.length_cons, List.length_nil, Nat.zero_add, Nat.reduceAdd] at _hv _k1); subst _hv; generalize x 2 = _y at _hu hK ⊢; subst _hu
      go_simp
      refine Calls.mono (houseHad_read ((HI.out V (g7.trans (hV.mono g7.size))).with_ (Below.refl _ _) _ks _k1 _k2)) ?_
      rintro e v1 ⟨v, rfl, hv, hb⟩
      exact hK.out _ _ hv hb
    refine StepsF.cons (fun x V hV hp K hK => ?_) ?_
    · obtain ⟨_u, _hu, _H⟩ := depsAll_get hp 4 (by kernel_rfl); replace _H := Lib.hid _H; generalize x 4 = _y at _hu hK ⊢; subst _hu
      go_simp
      exact hK.out _ _ ⟨_u, rfl, _H.out.1, _H.out.2⟩ (Below.refl _ _)
    refine StepsF.cons (fun x V hV hp K hK => ?_) ?_
    · obtain ⟨_u, _hu, _H⟩ := depsAll_get hp 5 (by kernel_rfl); replace _H := Lib.hid _H; generalize x 5 = _y at _hu hK ⊢; subst _hu
      go_simp
      exact hK.out _ _ (_H.out.1 rfl) (Below.refl _ _)
    refine StepsF.cons (fun x V hV hp K hK => ?_) ?_
    · obtain ⟨_u, _hu, _H⟩ := depsAll_get hp 5 (by kernel_rfl); replace _H := Lib.hid _H; generalize x 5 = _y at _hu hK ⊢; subst _hu
      go_simp
      exact hK.out _ _ rfl (Below.refl _ _)
    refine StepsF.cons (fun x V hV hp K hK => ?_) ?_
    · have _p := depsAll_get hp 6 (by kernel_rfl)
      go_simp
      exact hK.out _ _ _p (Below.refl _ _)
    refine StepsF.cons (fun x V hV hp K hK => ?_) ?_
    · have _e := depsAll_get hp 7 (by kernel_rfl); change x 7 = _ at _e; generalize x 7 = _y at _e hK ⊢; subst _e
      go_simp
      exact hK.out _ _ rfl (Below.refl _ _)
    exact StepsF.nil
  intro x v8 hV hall
  have g8 : Below W.heap.size W v8 := g7.trans (hV.mono g7.size)
  have _e := hall 9 (by decide)
  change x 9 = _ at _e
  generalize x 9 = _y at _e ⊢
  subst _e
  have p8 := hall 8 (by decide)
  generalize x 8 = r8 at p8 ⊢
  have P8 := Lib.hid p8
  clear p8
  have D8 := Lib.hid hV
  clear hV hall
  obtain ⟨a0, a1⟩ := HS.out v8 g8
  obtain ⟨b0, b1⟩ := HM.out v8 g8
  go_wp2_with (first
    | (go_at_call 33; refine Calls.mono (houseBars_read (HI.out _ g8)) ?_; rintro e v9 ⟨_, rfl, ⟨r9, rfl, p9, -⟩, hb⟩; have g9 := g8.trans (hb.mono (Below.size g8)); have P9 := Lib.hid (p9 rfl); clear p9; have D9 := Lib.hid hb; clear hb; obtain ⟨a0, a1⟩ := HS.out _ g9; obtain ⟨b0, b1⟩ := HM.out _ g9)
    | (go_at_call 35; refine Calls.mono (houseWays_read (HI.out _ g9)) ?_; rintro e v10 ⟨_, rfl, ⟨r10, rfl, p10, -⟩, hb⟩; have g10 := g9.trans (hb.mono (Below.size g9)); have P10 := Lib.hid (p10 rfl); clear p10; have D10 := Lib.hid hb; clear hb; obtain ⟨a0, a1⟩ := HS.out _ g10; obtain ⟨b0, b1⟩ := HM.out _ g10)
    | (go_at_call 37; refine Calls.mono (houseCount_read (HI.out _ g10)) ?_; rintro e v11 ⟨rfl, hb⟩; have g11 := g10.trans (hb.mono (Below.size g10)); have D11 := Lib.hid hb; clear hb; obtain ⟨a0, a1⟩ := HS.out _ g11; obtain ⟨b0, b1⟩ := HM.out _ g11)
    | (go_at_call 41; refine Calls.mono (houseAsk_read (HI.out _ g11)) ?_; rintro e v12 ⟨rfl, hb⟩; have g12 := g11.trans (hb.mono (Below.size g11)); have D12 := Lib.hid hb; clear hb; obtain ⟨a0, a1⟩ := HS.out _ g12; obtain ⟨b0, b1⟩ := HM.out _ g12))
  have K3 : Hid (Below v3.heap.size v3 v12) := Lib.hid (below_on (below_on (below_on (below_on (below_on (below_on (below_on (below_on D4.out D5.out) D6.out) D7.out) D8.out) D9.out) D10.out) D11.out) D12.out)
  have K6 : Hid (Below v6.heap.size v6 v12) := Lib.hid (below_on (below_on (below_on (below_on (below_on D7.out D8.out) D9.out) D10.out) D11.out) D12.out)
  have K8 : Hid (Below v8.heap.size v8 v12) := Lib.hid (below_on (below_on (below_on D9.out D10.out) D11.out) D12.out)
  have K9 : Hid (Below v9.heap.size v9 v12) := Lib.hid (below_on (below_on D10.out D11.out) D12.out)
  have K10 : Hid (Below v10.heap.size v10 v12) := Lib.hid (below_on D11.out D12.out)
  clear D3 D4 D5 D6 D7 D8 D9 D10 D11 D12 a0 a1 b0 b1
  -- region 15
  refine wp_region_facts (F := ?_) [Fact.eq (.agg #[.int .i64 280, .int .i64 400]), Fact.eq (.agg #[.int .i64 280, .int .i64 400]), Fact.eq (.bool true), Fact.eq (.bool true), Fact.rgs [(150, 300), (400, 600), (200, 480)], Fact.eq (.agg #[.int .i64 150, .int .i64 300]), Fact.eq (.agg #[.int .i64 400, .int .i64 600]), Fact.eq (.agg #[.int .i64 200, .int .i64 480]), Fact.rgs [(150, 300), (400, 600), (200, 480)], Fact.eq (.bool true), Fact.eq (.bool true), Fact.eq (.bool true), Fact.eq (.agg #[.slice Ab houseX.bars.length cb, .slice (some ⟨sb, so, none⟩) houseX.steps.length cs]), Fact.ints [0, 0], Fact.second (.int .i64 1) (Fact.ints [0, 0]), Fact.ints [180, 550, 410], Fact.eq (.agg #[.int .i64 410, .int .i64 420]), Fact.eq (.bool true), Fact.eq (.bool true), Fact.eq (.bool true), Fact.rgs [(180, 300), (550, 600), (410, 420)], Fact.eq (.agg #[.int .i64 180, .int .i64 300]), Fact.eq (.agg #[.int .i64 550, .int .i64 600]), Fact.eq (.agg #[.int .i64 410, .int .i64 420]), Fact.rgs [(180, 300), (550, 600), (410, 420)], Fact.eq (.bool true), Fact.eq (.bool true), Fact.eq (.bool true), Fact.ints [0, 1], Fact.ints [0, 1], Fact.eq (.bool true), Fact.eq (.bool true), Fact.eq (.bool true), Fact.lists [[0, 1], [0]], Fact.ints [0, 1], Fact.ints [0], Fact.lists [[0, 1], [0]], Fact.eq (.bool true), Fact.eq (.bool true), Fact.eq (.bool true), Fact.eq (.int .i64 (3)), Fact.eq (.bool true), Fact.eq (.bool true), Fact.eq (.bool true), Fact.eq (.int .i64 (-1)), Fact.eq (.bool true), Fact.eq (.bool true), Fact.eq (.bool true), Fact.eq (.int .i64 (2)), Fact.eq (.bool true), Fact.eq (.bool true), Fact.eq (.bool true)] (by kernel_rfl) (by kernel_rfl) (by kernel_rfl) (by intro x; simp only [List.map_cons, List.map_nil, putAll, Act.put, List.setIfInBounds_toArray, List.set_cons_zero, List.set_cons_succ, Nat.zero_add, Nat.reduceAdd]; rfl) ?_ ?_
  · refine StepsF.cons (fun x V hV hp K hK => ?_) ?_
    · obtain ⟨_c0, _c1⟩ := HA.out V (g12.trans (hV.mono g12.size))
      go_simp
      exact hK.out _ _ rfl (Below.refl _ _)
    refine StepsF.cons (fun x V hV hp K hK => ?_) ?_
    · go_simp
      refine Calls.mono (rg_any 280 400 _) ?_
      rintro e v1 ⟨rfl, hb⟩
      exact hK.out _ _ rfl hb
    refine StepsF.cons (fun x V hV hp K hK => ?_) ?_
    · have _e := depsAll_get hp 0 (by kernel_rfl); change x 0 = _ at _e; generalize x 0 = _y at _e hK ⊢; subst _e
      have _e := depsAll_get hp 1 (by kernel_rfl); change x 1 = _ at _e; generalize x 1 = _y at _e hK ⊢; subst _e
      go_simp
      exact hK.out _ _ rfl (Below.refl _ _)
    refine StepsF.cons (fun x V hV hp K hK => ?_) ?_
    · have _e := depsAll_get hp 2 (by kernel_rfl); change x 2 = _ at _e; generalize x 2 = _y at _e hK ⊢; subst _e
      go_simp
      exact hK.out _ _ rfl (Below.refl _ _)
    refine StepsF.cons (fun x V hV hp K hK => ?_) ?_
    · have _e := depsAll_get hp 3 (by kernel_rfl); change x 3 = _ at _e; generalize x 3 = _y at _e hK ⊢; subst _e
      go_simp
      exact hK.out _ _ (Fact.keep (Fact.rgs [(150, 300), (400, 600), (200, 480)]) _ _ _ ((K3.out).trans (hV.mono (K3.out).size)) P3.out) (Below.refl _ _)
    refine StepsF.cons (fun x V hV hp K hK => ?_) ?_
    · have _e := depsAll_get hp 3 (by kernel_rfl); change x 3 = _ at _e; generalize x 3 = _y at _e hK ⊢; subst _e
      go_simp
      refine Calls.mono (rg_any 150 300 _) ?_
      rintro e v1 ⟨rfl, hb⟩
      exact hK.out _ _ rfl hb
    refine StepsF.cons (fun x V hV hp K hK => ?_) ?_
    · have _e := depsAll_get hp 3 (by kernel_rfl); change x 3 = _ at _e; generalize x 3 = _y at _e hK ⊢; subst _e
      go_simp
      refine Calls.mono (rg_any 400 600 _) ?_
      rintro e v1 ⟨rfl, hb⟩
      exact hK.out _ _ rfl hb
    refine StepsF.cons (fun x V hV hp K hK => ?_) ?_
    · have _e := depsAll_get hp 3 (by kernel_rfl); change x 3 = _ at _e; generalize x 3 = _y at _e hK ⊢; subst _e
      go_simp
      refine Calls.mono (rg_any 200 480 _) ?_
      rintro e v1 ⟨rfl, hb⟩
      exact hK.out _ _ rfl hb
    refine StepsF.cons (fun x V hV hp K hK => ?_) ?_
    · have _e := depsAll_get hp 3 (by kernel_rfl); change x 3 = _ at _e; generalize x 3 = _y at _e hK ⊢; subst _e
      have _e := depsAll_get hp 5 (by kernel_rfl); change x 5 = _ at _e; generalize x 5 = _y at _e hK ⊢; subst _e
      have _e := depsAll_get hp 6 (by kernel_rfl); change x 6 = _ at _e; generalize x 6 = _y at _e hK ⊢; subst _e
      have _e := depsAll_get hp 7 (by kernel_rfl); change x 7 = _ at _e; generalize x 7 = _y at _e hK ⊢; subst _e
      go_simp
      exact hK.out _ _ (rgs_box (l := [(150, 300), (400, 600), (200, 480)]) (Box.new _ _ _) (by simp) (by decide)) ((Below.refl _ _).alloc (Nat.le_refl _) _)
    refine StepsF.cons (fun x V hV hp K hK => ?_) ?_
    · have _e := depsAll_get hp 3 (by kernel_rfl); change x 3 = _ at _e; generalize x 3 = _y at _e hK ⊢; subst _e
      have _p1 := depsAll_get hp 4 (by kernel_rfl)
      have _p2 := depsAll_get hp 8 (by kernel_rfl)
      generalize x 4 = _y1 at _p1 hK ⊢
      generalize x 8 = _y2 at _p2 hK ⊢
      have HP := Lib.hid (And.intro _p1 _p2)
      clear _p1 _p2
      go_simp
      refine Calls.mono (ranges_same HP.out.1 HP.out.2) ?_
      rintro e v1 ⟨rfl, hb⟩
      exact hK.out _ _ rfl hb
    refine StepsF.cons (fun x V hV hp K hK => ?_) ?_
    · have _e := depsAll_get hp 3 (by kernel_rfl); change x 3 = _ at _e; generalize x 3 = _y at _e hK ⊢; subst _e
      have _e := depsAll_get hp 9 (by kernel_rfl); change x 9 = _ at _e; generalize x 9 = _y at _e hK ⊢; subst _e
      go_simp
      exact hK.out _ _ rfl (Below.refl _ _)
    refine StepsF.cons (fun x V hV hp K hK => ?_) ?_
    · have _e := depsAll_get hp 10 (by kernel_rfl); change x 10 = _ at _e; generalize x 10 = _y at _e hK ⊢; subst _e
      go_simp
      exact hK.out _ _ rfl (Below.refl _ _)
    refine StepsF.cons (fun x V hV hp K hK => ?_) ?_
    · have _e := depsAll_get hp 11 (by kernel_rfl); change x 11 = _ at _e; generalize x 11 = _y at _e hK ⊢; subst _e
      obtain ⟨_c0, _c1⟩ := HS.out V (g12.trans (hV.mono g12.size))
      go_simp
      exact hK.out _ _ rfl (Below.refl _ _)
    refine StepsF.cons (fun x V hV hp K hK => ?_) ?_
    · have _e := depsAll_get hp 11 (by kernel_rfl); change x 11 = _ at _e; generalize x 11 = _y at _e hK ⊢; subst _e
      go_simp
      exact hK.out _ _ (ints_box (l := [0, 0]) (Box.new _ _ _) (by simp) (by decide)) ((Below.refl _ _).alloc (Nat.le_refl _) _)
    refine StepsF.cons (fun x V hV hp K hK => ?_) ?_
    · have _e := depsAll_get hp 11 (by kernel_rfl); change x 11 = _ at _e; generalize x 11 = _y at _e hK ⊢; subst _e
      obtain ⟨zA, zc, _hv, zk1, zk2, zks⟩ := depsAll_get hp 13 (by kernel_rfl); (try simp only [List.length_cons, List.length_nil, Nat.zero_add, Nat.reduceAdd] at _hv zk1); generalize x 13 = _y at _hv hK ⊢; subst _hv
      go_simp
      refine (recipe_laid _ _ _ _ _).mono ?_
      rintro e v1 ⟨rfl, hb⟩
      exact hK.out _ _ ⟨_, rfl, Fact.keep (Fact.ints [0, 0]) _ _ _ hb ⟨zA, zc, rfl, zk1, zk2, zks⟩⟩ hb
    refine StepsF.cons (fun x V hV hp K hK => ?_) ?_
    · have _e := depsAll_get hp 11 (by kernel_rfl); change x 11 = _ at _e; generalize x 11 = _y at _e hK ⊢; subst _e
      go_simp
      exact hK.out _ _ (Fact.keep (Fact.ints [180, 550, 410]) _ _ _ ((K6.out).trans (hV.mono (K6.out).size)) P6.out) (Below.refl _ _)
    refine StepsF.cons (fun x V hV hp K hK => ?_) ?_
    · have _e := depsAll_get hp 11 (by kernel_rfl); change x 11 = _ at _e; generalize x 11 = _y at _e hK ⊢; subst _e
      obtain ⟨_c0, _c1⟩ := HM.out V (g12.trans (hV.mono g12.size))
      go_simp
      exact hK.out _ _ rfl (Below.refl _ _)
    refine StepsF.cons (fun x V hV hp K hK => ?_) ?_
    · have _e := depsAll_get hp 11 (by kernel_rfl); change x 11 = _ at _e; generalize x 11 = _y at _e hK ⊢; subst _e
      have _e := depsAll_get hp 12 (by kernel_rfl); change x 12 = _ at _e; generalize x 12 = _y at _e hK ⊢; subst _e
      have _e := depsAll_get hp 16 (by kernel_rfl); change x 16 = _ at _e; generalize x 16 = _y at _e hK ⊢; subst _e
      obtain ⟨_u, _hu, _A, _c, _hv, _k1, _k2, _ks⟩ := depsAll_get hp 14 (by kernel_rfl); (try simp only [List.length_cons, List.length_nil, Nat.zero_add, Nat.reduceAdd] at _hv _k1); subst _hv; generalize x 14 = _y at _hu hK ⊢; subst _hu
      obtain ⟨yA, yc, _hv, yk1, yk2, yks⟩ := depsAll_get hp 15 (by kernel_rfl); (try simp only [List.length_cons, List.length_nil, Nat.zero_add, Nat.reduceAdd] at _hv yk1); generalize x 15 = _y at _hv hK ⊢; subst _hv
      go_simp
      refine Calls.mono (houseAgrees ((HI.out V (g12.trans (hV.mono g12.size))).with_ (Below.refl _ _) _ks _k1 _k2) yks yk1 yk2) ?_
      rintro e v1 ⟨rfl, hb⟩
      exact hK.out _ _ rfl hb
    refine StepsF.cons (fun x V hV hp K hK => ?_) ?_
    · have _e := depsAll_get hp 11 (by kernel_rfl); change x 11 = _ at _e; generalize x 11 = _y at _e hK ⊢; subst _e
      have _e := depsAll_get hp 17 (by kernel_rfl); change x 17 = _ at _e; generalize x 17 = _y at _e hK ⊢; subst _e
      go_simp
      exact hK.out _ _ rfl (Below.refl _ _)
    refine StepsF.cons (fun x V hV hp K hK => ?_) ?_
    · have _e := depsAll_get hp 18 (by kernel_rfl); change x 18 = _ at _e; generalize x 18 = _y at _e hK ⊢; subst _e
      go_simp
      exact hK.out _ _ rfl (Below.refl _ _)
    refine StepsF.cons (fun x V hV hp K hK => ?_) ?_
    · have _e := depsAll_get hp 19 (by kernel_rfl); change x 19 = _ at _e; generalize x 19 = _y at _e hK ⊢; subst _e
      go_simp
      exact hK.out _ _ (Fact.keep (Fact.rgs [(180, 300), (550, 600), (410, 420)]) _ _ _ ((K8.out).trans (hV.mono (K8.out).size)) P8.out) (Below.refl _ _)
    refine StepsF.cons (fun x V hV hp K hK => ?_) ?_
    · have _e := depsAll_get hp 19 (by kernel_rfl); change x 19 = _ at _e; generalize x 19 = _y at _e hK ⊢; subst _e
      go_simp
      refine Calls.mono (rg_any 180 300 _) ?_
      rintro e v1 ⟨rfl, hb⟩
      exact hK.out _ _ rfl hb
    refine StepsF.cons (fun x V hV hp K hK => ?_) ?_
    · have _e := depsAll_get hp 19 (by kernel_rfl); change x 19 = _ at _e; generalize x 19 = _y at _e hK ⊢; subst _e
      go_simp
      refine Calls.mono (rg_any 550 600 _) ?_
      rintro e v1 ⟨rfl, hb⟩
      exact hK.out _ _ rfl hb
    refine StepsF.cons (fun x V hV hp K hK => ?_) ?_
    · have _e := depsAll_get hp 19 (by kernel_rfl); change x 19 = _ at _e; generalize x 19 = _y at _e hK ⊢; subst _e
      obtain ⟨_c0, _c1⟩ := HM.out V (g12.trans (hV.mono g12.size))
      go_simp
      exact hK.out _ _ rfl (Below.refl _ _)
    refine StepsF.cons (fun x V hV hp K hK => ?_) ?_
    · have _e := depsAll_get hp 19 (by kernel_rfl); change x 19 = _ at _e; generalize x 19 = _y at _e hK ⊢; subst _e
      have _e := depsAll_get hp 21 (by kernel_rfl); change x 21 = _ at _e; generalize x 21 = _y at _e hK ⊢; subst _e
      have _e := depsAll_get hp 22 (by kernel_rfl); change x 22 = _ at _e; generalize x 22 = _y at _e hK ⊢; subst _e
      have _e := depsAll_get hp 23 (by kernel_rfl); change x 23 = _ at _e; generalize x 23 = _y at _e hK ⊢; subst _e
      go_simp
      exact hK.out _ _ (rgs_box (l := [(180, 300), (550, 600), (410, 420)]) (Box.new _ _ _) (by simp) (by decide)) ((Below.refl _ _).alloc (Nat.le_refl _) _)
    refine StepsF.cons (fun x V hV hp K hK => ?_) ?_
    · have _e := depsAll_get hp 19 (by kernel_rfl); change x 19 = _ at _e; generalize x 19 = _y at _e hK ⊢; subst _e
      have _p1 := depsAll_get hp 20 (by kernel_rfl)
      have _p2 := depsAll_get hp 24 (by kernel_rfl)
      generalize x 20 = _y1 at _p1 hK ⊢
      generalize x 24 = _y2 at _p2 hK ⊢
      have HP := Lib.hid (And.intro _p1 _p2)
      clear _p1 _p2
      go_simp
      refine Calls.mono (ranges_same HP.out.1 HP.out.2) ?_
      rintro e v1 ⟨rfl, hb⟩
      exact hK.out _ _ rfl hb
    refine StepsF.cons (fun x V hV hp K hK => ?_) ?_
    · have _e := depsAll_get hp 19 (by kernel_rfl); change x 19 = _ at _e; generalize x 19 = _y at _e hK ⊢; subst _e
      have _e := depsAll_get hp 25 (by kernel_rfl); change x 25 = _ at _e; generalize x 25 = _y at _e hK ⊢; subst _e
      go_simp
      exact hK.out _ _ rfl (Below.refl _ _)
    refine StepsF.cons (fun x V hV hp K hK => ?_) ?_
    · have _e := depsAll_get hp 26 (by kernel_rfl); change x 26 = _ at _e; generalize x 26 = _y at _e hK ⊢; subst _e
      go_simp
      exact hK.out _ _ rfl (Below.refl _ _)
    refine StepsF.cons (fun x V hV hp K hK => ?_) ?_
    · have _e := depsAll_get hp 27 (by kernel_rfl); change x 27 = _ at _e; generalize x 27 = _y at _e hK ⊢; subst _e
      go_simp
      exact hK.out _ _ (Fact.keep (Fact.ints [0, 1]) _ _ _ ((K9.out).trans (hV.mono (K9.out).size)) P9.out) (Below.refl _ _)
    refine StepsF.cons (fun x V hV hp K hK => ?_) ?_
    · have _e := depsAll_get hp 27 (by kernel_rfl); change x 27 = _ at _e; generalize x 27 = _y at _e hK ⊢; subst _e
      go_simp
      exact hK.out _ _ (ints_box (l := [0, 1]) (Box.new _ _ _) (by simp) (by decide)) ((Below.refl _ _).alloc (Nat.le_refl _) _)
    refine StepsF.cons (fun x V hV hp K hK => ?_) ?_
    · have _e := depsAll_get hp 27 (by kernel_rfl); change x 27 = _ at _e; generalize x 27 = _y at _e hK ⊢; subst _e
      have _p1 := depsAll_get hp 28 (by kernel_rfl)
      have _p2 := depsAll_get hp 29 (by kernel_rfl)
      generalize x 28 = _y1 at _p1 hK ⊢
      generalize x 29 = _y2 at _p2 hK ⊢
      have HP := Lib.hid (And.intro _p1 _p2)
      clear _p1 _p2
      go_simp
      refine Calls.mono (ints_same HP.out.1 HP.out.2) ?_
      rintro e v1 ⟨rfl, hb⟩
      exact hK.out _ _ rfl hb
    refine StepsF.cons (fun x V hV hp K hK => ?_) ?_
    · have _e := depsAll_get hp 27 (by kernel_rfl); change x 27 = _ at _e; generalize x 27 = _y at _e hK ⊢; subst _e
      have _e := depsAll_get hp 30 (by kernel_rfl); change x 30 = _ at _e; generalize x 30 = _y at _e hK ⊢; subst _e
      go_simp
      exact hK.out _ _ rfl (Below.refl _ _)
    refine StepsF.cons (fun x V hV hp K hK => ?_) ?_
    · have _e := depsAll_get hp 31 (by kernel_rfl); change x 31 = _ at _e; generalize x 31 = _y at _e hK ⊢; subst _e
      go_simp
      exact hK.out _ _ rfl (Below.refl _ _)
    refine StepsF.cons (fun x V hV hp K hK => ?_) ?_
    · have _e := depsAll_get hp 32 (by kernel_rfl); change x 32 = _ at _e; generalize x 32 = _y at _e hK ⊢; subst _e
      go_simp
      exact hK.out _ _ (Fact.keep (Fact.lists [[0, 1], [0]]) _ _ _ ((K10.out).trans (hV.mono (K10.out).size)) P10.out) (Below.refl _ _)
    refine StepsF.cons (fun x V hV hp K hK => ?_) ?_
    · have _e := depsAll_get hp 32 (by kernel_rfl); change x 32 = _ at _e; generalize x 32 = _y at _e hK ⊢; subst _e
      go_simp
      exact hK.out _ _ (ints_box (l := [0, 1]) (Box.new _ _ _) (by simp) (by decide)) ((Below.refl _ _).alloc (Nat.le_refl _) _)
    refine StepsF.cons (fun x V hV hp K hK => ?_) ?_
    · have _e := depsAll_get hp 32 (by kernel_rfl); change x 32 = _ at _e; generalize x 32 = _y at _e hK ⊢; subst _e
      go_simp
      exact hK.out _ _ (ints_box (l := [0]) (Box.new _ _ _) (by simp) (by decide)) ((Below.refl _ _).alloc (Nat.le_refl _) _)
    refine StepsF.cons (fun x V hV hp K hK => ?_) ?_
    · have _e := depsAll_get hp 32 (by kernel_rfl); change x 32 = _ at _e; generalize x 32 = _y at _e hK ⊢; subst _e
      obtain ⟨yA, yc, _hv, yk1, yk2, yks⟩ := depsAll_get hp 34 (by kernel_rfl); (try simp only [List.length_cons, List.length_nil, Nat.zero_add, Nat.reduceAdd] at _hv yk1); generalize x 34 = _y at _hv hK ⊢; subst _hv
      obtain ⟨zA, zc, _hv, zk1, zk2, zks⟩ := depsAll_get hp 35 (by kernel_rfl); (try simp only [List.length_cons, List.length_nil, Nat.zero_add, Nat.reduceAdd] at _hv zk1); generalize x 35 = _y at _hv hK ⊢; subst _hv
      have _q1 : Ints .i64 V V.heap.size (.slice yA 2 yc) [0, 1] := ⟨yA, yc, rfl, yk1, yk2, yks⟩
      have _q2 : Ints .i64 V V.heap.size (.slice zA 1 zc) [0] := ⟨zA, zc, rfl, zk1, zk2, zks⟩
      have HQ := Lib.hid (And.intro _q1 _q2)
      clear _q1 _q2 yks zks
      go_simp
      have hb : Below V.heap.size V (V.alloc (.cells #[.slice yA 2 yc, .slice zA 1 zc] 40)) := (Below.refl _ _).alloc (Nat.le_refl _) _
      exact hK.out _ _ (lists_box2 (Box.new _ _ _) (Fact.keep (Fact.ints [0, 1]) _ _ _ hb HQ.out.1) (Fact.keep (Fact.ints [0]) _ _ _ hb HQ.out.2)) hb
    refine StepsF.cons (fun x V hV hp K hK => ?_) ?_
    · have _e := depsAll_get hp 32 (by kernel_rfl); change x 32 = _ at _e; generalize x 32 = _y at _e hK ⊢; subst _e
      have _p1 := depsAll_get hp 33 (by kernel_rfl)
      have _p2 := depsAll_get hp 36 (by kernel_rfl)
      generalize x 33 = _y1 at _p1 hK ⊢
      generalize x 36 = _y2 at _p2 hK ⊢
      have HP := Lib.hid (And.intro _p1 _p2)
      clear _p1 _p2
      go_simp
      refine Calls.mono (lists_same HP.out.1 HP.out.2) ?_
      rintro e v1 ⟨rfl, hb⟩
      exact hK.out _ _ rfl hb
    refine StepsF.cons (fun x V hV hp K hK => ?_) ?_
    · have _e := depsAll_get hp 32 (by kernel_rfl); change x 32 = _ at _e; generalize x 32 = _y at _e hK ⊢; subst _e
      have _e := depsAll_get hp 37 (by kernel_rfl); change x 37 = _ at _e; generalize x 37 = _y at _e hK ⊢; subst _e
      go_simp
      exact hK.out _ _ rfl (Below.refl _ _)
    refine StepsF.cons (fun x V hV hp K hK => ?_) ?_
    · have _e := depsAll_get hp 38 (by kernel_rfl); change x 38 = _ at _e; generalize x 38 = _y at _e hK ⊢; subst _e
      go_simp
      exact hK.out _ _ rfl (Below.refl _ _)
    refine StepsF.cons (fun x V hV hp K hK => ?_) ?_
    · have _e := depsAll_get hp 39 (by kernel_rfl); change x 39 = _ at _e; generalize x 39 = _y at _e hK ⊢; subst _e
      go_simp
      exact hK.out _ _ rfl (Below.refl _ _)
    refine StepsF.cons (fun x V hV hp K hK => ?_) ?_
    · have _e := depsAll_get hp 39 (by kernel_rfl); change x 39 = _ at _e; generalize x 39 = _y at _e hK ⊢; subst _e
      have _e := depsAll_get hp 40 (by kernel_rfl); change x 40 = _ at _e; generalize x 40 = _y at _e hK ⊢; subst _e
      go_simp
      exact hK.out _ _ rfl (Below.refl _ _)
    refine StepsF.cons (fun x V hV hp K hK => ?_) ?_
    · have _e := depsAll_get hp 39 (by kernel_rfl); change x 39 = _ at _e; generalize x 39 = _y at _e hK ⊢; subst _e
      have _e := depsAll_get hp 41 (by kernel_rfl); change x 41 = _ at _e; generalize x 41 = _y at _e hK ⊢; subst _e
      go_simp
      exact hK.out _ _ rfl (Below.refl _ _)
    refine StepsF.cons (fun x V hV hp K hK => ?_) ?_
    · have _e := depsAll_get hp 42 (by kernel_rfl); change x 42 = _ at _e; generalize x 42 = _y at _e hK ⊢; subst _e
      go_simp
      exact hK.out _ _ rfl (Below.refl _ _)
    refine StepsF.cons (fun x V hV hp K hK => ?_) ?_
    · have _e := depsAll_get hp 43 (by kernel_rfl); change x 43 = _ at _e; generalize x 43 = _y at _e hK ⊢; subst _e
      go_simp
      exact hK.out _ _ rfl (Below.refl _ _)
    refine StepsF.cons (fun x V hV hp K hK => ?_) ?_
    · have _e := depsAll_get hp 43 (by kernel_rfl); change x 43 = _ at _e; generalize x 43 = _y at _e hK ⊢; subst _e
      have _e := depsAll_get hp 44 (by kernel_rfl); change x 44 = _ at _e; generalize x 44 = _y at _e hK ⊢; subst _e
      go_simp
      exact hK.out _ _ rfl (Below.refl _ _)
    refine StepsF.cons (fun x V hV hp K hK => ?_) ?_
    · have _e := depsAll_get hp 43 (by kernel_rfl); change x 43 = _ at _e; generalize x 43 = _y at _e hK ⊢; subst _e
      have _e := depsAll_get hp 45 (by kernel_rfl); change x 45 = _ at _e; generalize x 45 = _y at _e hK ⊢; subst _e
      go_simp
      exact hK.out _ _ rfl (Below.refl _ _)
    refine StepsF.cons (fun x V hV hp K hK => ?_) ?_
    · have _e := depsAll_get hp 46 (by kernel_rfl); change x 46 = _ at _e; generalize x 46 = _y at _e hK ⊢; subst _e
      go_simp
      exact hK.out _ _ rfl (Below.refl _ _)
    refine StepsF.cons (fun x V hV hp K hK => ?_) ?_
    · have _e := depsAll_get hp 47 (by kernel_rfl); change x 47 = _ at _e; generalize x 47 = _y at _e hK ⊢; subst _e
      go_simp
      exact hK.out _ _ rfl (Below.refl _ _)
    refine StepsF.cons (fun x V hV hp K hK => ?_) ?_
    · have _e := depsAll_get hp 47 (by kernel_rfl); change x 47 = _ at _e; generalize x 47 = _y at _e hK ⊢; subst _e
      have _e := depsAll_get hp 48 (by kernel_rfl); change x 48 = _ at _e; generalize x 48 = _y at _e hK ⊢; subst _e
      go_simp
      exact hK.out _ _ rfl (Below.refl _ _)
    refine StepsF.cons (fun x V hV hp K hK => ?_) ?_
    · have _e := depsAll_get hp 47 (by kernel_rfl); change x 47 = _ at _e; generalize x 47 = _y at _e hK ⊢; subst _e
      have _e := depsAll_get hp 49 (by kernel_rfl); change x 49 = _ at _e; generalize x 49 = _y at _e hK ⊢; subst _e
      go_simp
      exact hK.out _ _ rfl (Below.refl _ _)
    refine StepsF.cons (fun x V hV hp K hK => ?_) ?_
    · have _e := depsAll_get hp 50 (by kernel_rfl); change x 50 = _ at _e; generalize x 50 = _y at _e hK ⊢; subst _e
      go_simp
      exact hK.out _ _ rfl (Below.refl _ _)
    exact StepsF.nil
  intro x v15 hV hall
  have _e := hall 51 (by decide)
  change x 51 = _ at _e
  generalize x 51 = _y at _e ⊢
  subst _e
  clear hall
  go_wp2_with fail
  go_ret
  exact ⟨rfl, hbW.trans ((g12.trans (hV.mono g12.size)).mono hbW.size)⟩
end Go.Proofs.Ytigpefjeelgfdaa

/-
  The bridge: what is known of functions, as calls of the engine.
-/
namespace Go.Proofs.Ytigpefjeelgfdaa.Eng
open Go.RowKit

abbrev rgD (lo hi : Int) : Dat := .agg [iD lo, iD hi]
/-- What a contract of the elder texts says. -/
def Ans (r : Dat) (w : World) (e : Ending) (w' : World) : Prop := ∃ v, e = .returned v ∧ Below w.heap.size w w' ∧ RepD (· < w'.heap.size) w' r v
theorem wcall0 {f : FuncId} {fn : Func} (hf : Try.prog.funcs[f]? = some fn) (hn : (fn.name == "runtime.NumGoroutine") = false) (hb : fn.body.isNone = false) {r : Dat} (h : ∀ w, Calls Try.prog f #[] w (Ans r w)) : WCall Try.prog f [] r :=
  ⟨callable_of hf hn hb, fun w vs hs hr => by
    obtain ⟨l⟩ := vs
    match l, hs with
    | [], _ => exact h w⟩
theorem wcall1 {f : FuncId} {fn : Func} (hf : Try.prog.funcs[f]? = some fn) (hn : (fn.name == "runtime.NumGoroutine") = false) (hb : fn.body.isNone = false) {a r : Dat} (h : ∀ w v, RepD (· < w.heap.size) w a v → Calls Try.prog f #[v] w (Ans r w)) : WCall Try.prog f [a] r :=
  ⟨callable_of hf hn hb, fun w vs hs hr => by
    obtain ⟨l⟩ := vs
    match l, hs with
    | [v], _ => exact h w v (hr 0 a v rfl rfl)⟩
theorem wcall2 {f : FuncId} {fn : Func} (hf : Try.prog.funcs[f]? = some fn) (hn : (fn.name == "runtime.NumGoroutine") = false) (hb : fn.body.isNone = false) {a b r : Dat} (h : ∀ w v u, RepD (· < w.heap.size) w a v → RepD (· < w.heap.size) w b u → Calls Try.prog f #[v, u] w (Ans r w)) : WCall Try.prog f [a, b] r :=
  ⟨callable_of hf hn hb, fun w vs hs hr => by
    obtain ⟨l⟩ := vs
    match l, hs with
    | [v, u], _ => exact h w v u (hr 0 a v rfl rfl) (hr 1 b u rfl rfl)⟩
theorem wcall3 {f : FuncId} {fn : Func} (hf : Try.prog.funcs[f]? = some fn) (hn : (fn.name == "runtime.NumGoroutine") = false) (hb : fn.body.isNone = false) {a b c r : Dat} (h : ∀ w v u t, RepD (· < w.heap.size) w a v → RepD (· < w.heap.size) w b u → RepD (· < w.heap.size) w c t → Calls Try.prog f #[v, u, t] w (Ans r w)) : WCall Try.prog f [a, b, c] r :=
  ⟨callable_of hf hn hb, fun w vs hs hr => by
    obtain ⟨l⟩ := vs
    match l, hs with
    | [v, u, t], _ => exact h w v u t (hr 0 a v rfl rfl) (hr 1 b u rfl rfl) (hr 2 c t rfl rfl)⟩
theorem ans_val {w w' : World} {e : Ending} {v : Value} (h1 : v.oneCell' = true) (h : e = .returned v ∧ Below w.heap.size w w') : Ans (.val v) w e w' := ⟨v, h.1, h.2, .val _ h1⟩

theorem checkWorks_c (x : Works) : ACall Try.prog 22 [worksD x] (iD (worksErr x)) :=
  (wcall1 Try.func22 rfl rfl fun w v hv => by
    obtain ⟨Ab, cb, As, cs, rfl, h⟩ := in_of hv
    exact (refCheckWorks_any Ab As cb cs x _ w h.bars h.steps h.cs1 h.cs2 h.cb1 h.cb2 h.le).mono fun e w' h => ans_val rfl h).strong (.val _)
theorem great_c (x : Works) : ACall Try.prog 14 [worksD x] (bD (greatB x)) :=
  (wcall1 Try.func14 rfl rfl fun w v hv => by
    obtain ⟨Ab, cb, As, cs, rfl, h⟩ := in_of hv
    exact (great_any Ab As cb cs x _ w h.bars h.steps h.cs1 h.cs2 h.cb1 h.cb2 h.le).mono fun e w' h => ans_val rfl h).strong (.val _)
theorem measured_c (x : Works) (lo hi : Int) : ACall Try.prog 74 [worksD x, rgD lo hi] (iD (meaErr x lo hi)) :=
  (wcall2 Try.func74 rfl rfl fun w v u hv hu => by
    obtain ⟨Ab, cb, As, cs, rfl, h⟩ := in_of hv
    obtain rfl := rg_of hu
    exact (refIsMeasured_any Ab As cb cs x lo hi _ w h).mono fun e w' h => ans_val rfl h).strong (.val _)
theorem made_c (x : Works) (m : Nat) (ways : List Int) (lo hi : Int) (ok : RecOk x (m : Int) ways) : ACall Try.prog 97 [worksD x, recD m ways, rgD lo hi] (bD (madeB x m ways lo hi)) :=
  (wcall3 Try.func97 rfl rfl fun w v u t hv hu ht => by
    obtain ⟨Ab, cb, As, cs, Ar, cr, rfl, rfl, h⟩ := in_of2 hv hu
    obtain rfl := rg_of ht
    exact (refMade_ok Ab As Ar cb cs cr x m ways lo hi _ w h ok).mono fun e w' h => ans_val rfl h).strong (.val _)
theorem ints_c (a b : List Int) : ACall Try.prog 39 [intL a, intL b] (bD (decide (a = b))) :=
  (wcall2 Try.func39 rfl rfl fun w v u hv hu => by
    obtain ⟨A, ca, rfl, a1, a2, a3⟩ := ints_of (fun _ h => h) hv
    obtain ⟨B, cb, rfl, b1, b2, b3⟩ := ints_of (fun _ h => h) hu
    exact (lawInts_any A B ca cb a b _ w a3 b3 (Nat.le_refl _) a1 a2 b1 b2).mono fun e w' h => ans_val rfl h).strong (.val _)
theorem ranges_c (a b : List Rg) : ACall Try.prog 25 [.list (rgRows a), .list (rgRows b)] (bD (decide (a = b))) :=
  (wcall2 Try.func25 rfl rfl fun w v u hv hu => by
    obtain ⟨A, ca, rfl, a1, a2, a3⟩ := rgs_of (fun _ h => h) hv
    obtain ⟨B, cb, rfl, b1, b2, b3⟩ := rgs_of (fun _ h => h) hu
    exact (lawRanges_any A B ca cb a b _ w a3 b3 (Nat.le_refl _) a1 a2 b1 b2).mono fun e w' h => ans_val rfl h).strong (.val _)
theorem lists_c (a b : List (List Int)) : ACall Try.prog 40 [.list (listRows a), .list (listRows b)] (bD (decide (a = b))) :=
  (wcall2 Try.func40 rfl rfl fun w v u hv hu => by
    obtain ⟨A, ca, rfl, a1, a2, a3⟩ := lists_of (fun _ h => h) hv
    obtain ⟨B, cb, rfl, b1, b2, b3⟩ := lists_of (fun _ h => h) hu
    exact (lawLists_any A B ca cb a b _ w a3 b3 (Nat.le_refl _) a1 a2 b1 b2).mono fun e w' h => ans_val rfl h).strong (.val _)
theorem tup2 {ro : Nat → Prop} {w : World} {a b : Dat} {x y : Value} (h1 : RepD ro w a x) (h2 : RepD ro w b y) : RepD ro w (.tup [a, b]) (.tuple #[x, y]) := by
  refine .tup _ _ rfl fun i c v hc hv => ?_
  match i with
  | 0 => simp at hc hv; subst hc; subst hv; exact h1
  | 1 => simp at hc hv; subst hc; subst hv; exact h2
  | i + 2 => simp at hc
theorem tup3 {ro : Nat → Prop} {w : World} {a b c : Dat} {x y z : Value} (h1 : RepD ro w a x) (h2 : RepD ro w b y) (h3 : RepD ro w c z) : RepD ro w (.tup [a, b, c]) (.tuple #[x, y, z]) := by
  refine .tup _ _ rfl fun i c v hc hv => ?_
  match i with
  | 0 => simp at hc hv; subst hc; subst hv; exact h1
  | 1 => simp at hc hv; subst hc; subst hv; exact h2
  | 2 => simp at hc hv; subst hc; subst hv; exact h3
  | i + 3 => simp at hc
theorem nil_list {ro : Nat → Prop} {w : World} : RepD ro w (.list []) (.slice none 0 0) := .list [] none 0 (fun _ _ => default) (by simp) (by simp [maxLen]) (by simp) (by simp) (by simp)
/-- A list, or an error and nil. -/
def ansD (err : Int) (rows : List (List Dat)) : Dat := .tup [.list (if err = 0 then rows else []), iD err]
theorem ans_res {F : Fact} {err : Int} {rows : List (List Dat)} {f : FuncId} {args : Array Value} {w : World} (hF : ∀ u w', F.holds u w' → RepD (· < w'.heap.size) w' (.list rows) u) (h : CallsF f args w (F.res err)) : Calls Try.prog f args w (Ans (ansD err rows) w) := by
  refine Calls.mono h ?_
  rintro e w' ⟨v, rfl, ⟨u, rfl, h1, h2⟩, hb⟩
  refine ⟨_, rfl, hb, tup2 ?_ (.val _ rfl)⟩
  by_cases h0 : err = 0
  · rw [if_pos h0]; exact hF _ _ (h1 h0)
  · rw [if_neg h0, h2 h0]; exact nil_list
theorem bars_c (x : Works) (lo hi : Int) : WCall Try.prog 33 [worksD x, rgD lo hi] (ansD (someErr x lo hi) (iRows (leftN x lo hi (-1)))) :=
  wcall2 Try.func33 rfl rfl fun w v u hv hu => by
    obtain ⟨Ab, cb, As, cs, rfl, h⟩ := in_of hv
    obtain rfl := rg_of hu
    exact ans_res (F := Fact.ints _) (fun _ _ h => of_ints (fun _ h => h) h) (heatBars_read h)
theorem ways_c (x : Works) (lo hi : Int) : WCall Try.prog 35 [worksD x, rgD lo hi] (ansD (someErr x lo hi) (listRows ((List.range x.steps.length).map fun (i : Nat) => leftN x lo hi i))) :=
  wcall2 Try.func35 rfl rfl fun w v u hv hu => by
    obtain ⟨Ab, cb, As, cs, rfl, h⟩ := in_of hv
    obtain rfl := rg_of hu
    exact ans_res (F := Fact.lists _) (fun _ _ h => of_lists (fun _ h => h) h) (heatWays_read h)
theorem count_c (x : Works) (lo hi : Int) : ACall Try.prog 37 [worksD x, rgD lo hi] (.tup [iD (if makErr x lo hi = 0 then (totN x lo hi : Int) else 0), iD (makErr x lo hi)]) :=
  (wcall2 Try.func37 rfl rfl fun w v u hv hu => by
    obtain ⟨Ab, cb, As, cs, rfl, h⟩ := in_of hv
    obtain rfl := rg_of hu
    exact (heatCount_any Ab As cb cs x lo hi _ w h).mono fun e w' h => ⟨_, h.1, h.2, tup2 (.val _ rfl) (.val _ rfl)⟩).strong (.tup _ (by simp))
def askD (x : Works) (mlo mhi : Int) : Dat :=
  if someErr x mlo mhi = 0 then .tup [iD ((askAt x mlo mhi : Int) - 1), iD (intAt (wlTo x mlo mhi (x.steps.length + 1)) (askAt x mlo mhi)), iD 0]
  else .tup [iD 0, iD 0, iD (someErr x mlo mhi)]
theorem ask_c (x : Works) (lo hi : Int) : ACall Try.prog 41 [worksD x, rgD lo hi] (askD x lo hi) :=
  (wcall2 Try.func41 rfl rfl fun w v u hv hu => by
    obtain ⟨Ab, cb, As, cs, rfl, h⟩ := in_of hv
    obtain rfl := rg_of hu
    refine (heatAsk_any Ab As cb cs x lo hi _ w h).mono fun e w' h => ⟨_, h.1, h.2, ?_⟩
    unfold askV askD
    split
    · exact tup3 (.val _ rfl) (.val _ rfl) (.val _ rfl)
    · exact tup3 (.val _ rfl) (.val _ rfl) (.val _ rfl)).strong (by unfold askD; split <;> exact .tup _ (by simp))
theorem works_c : ACall Try.prog 16 [] (bD true) :=
  (wcall0 Try.func16 rfl rfl fun w => (works_any w).mono fun e w' h => ans_val rfl h).strong (.val _)
end Go.Proofs.Ytigpefjeelgfdaa.Eng

/-
  Layer 1's reference, by the engine: Makers.
-/
namespace Go.Proofs.Ytigpefjeelgfdaa.Eng
open Go.RowKit

def madeR (x : Works) (lo hi : Int) (r : Rec) : Bool := madeB x r.1.toNat r.2 lo hi
def mkTo (x : Works) (lo hi : Int) (l : List Rec) (k : Nat) : List Rec := (l.take k).filter (madeR x lo hi)
theorem mkTo_yes {x : Works} {lo hi : Int} {l : List Rec} {k : Nat} {r : Rec} (h : l[k]? = some r) (hm : madeR x lo hi r = true) : mkTo x lo hi l (k + 1) = mkTo x lo hi l k ++ [r] := by
  rw [mkTo, take_some h, List.filter_append]; simp [mkTo, hm]
theorem mkTo_no {x : Works} {lo hi : Int} {l : List Rec} {k : Nat} {r : Rec} (h : l[k]? = some r) (hm : madeR x lo hi r = false) : mkTo x lo hi l (k + 1) = mkTo x lo hi l k := by
  rw [mkTo, take_some h, List.filter_append]; simp [mkTo, hm]
theorem mkTo_len (x : Works) (lo hi : Int) (l : List Rec) (k : Nat) : (mkTo x lo hi l k).length ≤ k := by
  refine Nat.le_trans (List.length_filter_le _ _) ?_
  simp; omega
/-- What is asked of all recipes of a works. -/
structure RecsOk (x : Works) (l : List Rec) : Prop where
  ok : ∀ r ∈ l, ∃ m : Nat, r.1 = (m : Int) ∧ RecOk x (m : Int) r.2
  few : l.length ≤ 1000
set_option maxRecDepth 100000 in
set_option maxHeartbeats 4000000 in
theorem makers_ok (x : Works) (lo hi : Int) (l : List Rec) (hl : RecsOk x l) (hr : ACall Try.prog 50 [worksD x] (recsD l)) : ACall Try.prog 75 [worksD x, rgD lo hi] (recsD (mkTo x lo hi l l.length)) := by
  obtain ⟨hok, hfew⟩ := hl
  refine acallK Try.func75 rfl rfl (show 2 ≤ _ by decide) rfl fun _ => ?_; simp only [Try.ntmps75]
  repeat (first | (with_reducible refine AWp.seqK fun _ => ?_) | (with_reducible refine AWp.blockK fun _ => ?_) | (with_reducible refine KK.go ?_) | (refine AWp.reg tabOk ?_; simp [-getElem?_pos, List.getElem?_cons_zero, List.getElem?_cons_succ, List.getElem?_nil, ]) | (refine AWp.condK fun _ _ => ?_; simp [-getElem?_pos, List.getElem?_cons_zero, List.getElem?_cons_succ, List.getElem?_nil, ]) | (refine AWp.ret ?_; try simp only [thenP]) | (refine AWp.skip ?_; try simp only [thenP]) | (refine AWp.exit ?_; try simp only [thenP]) | (with_reducible refine BB.go ?_; simp only [blockP, thenP, if_true, if_false, reduceIte]) | (refine AWp.draws tabOk (by kernel_rfl) (by kernel_rfl) ?_; simp [-getElem?_pos, List.getElem?_cons_zero, List.getElem?_cons_succ, List.getElem?_nil, ]) | (with_reducible refine And.intro (show okLog _ _ = true from by kernel_rfl) ?_))
  first | (refine Exec0.call [] hr (by simp [-getElem?_pos, ]) rfl (by simp [-getElem?_pos, List.getElem?_cons_zero, List.getElem?_cons_succ, List.getElem?_nil, ]) ?_; simp [-getElem?_pos, List.getElem?_cons_zero, List.getElem?_cons_succ, List.getElem?_nil, ]) | (refine Exec.call [] hr (by simp [-getElem?_pos, ]) rfl (by simp [-getElem?_pos, List.getElem?_cons_zero, List.getElem?_cons_succ, List.getElem?_nil, ]) ?_; simp [-getElem?_pos, List.getElem?_cons_zero, List.getElem?_cons_succ, List.getElem?_nil, ])
  repeat (first | (with_reducible refine AWp.seqK fun _ => ?_) | (with_reducible refine AWp.blockK fun _ => ?_) | (with_reducible refine KK.go ?_) | (refine AWp.reg tabOk ?_; simp [-getElem?_pos, List.getElem?_cons_zero, List.getElem?_cons_succ, List.getElem?_nil, ]) | (refine AWp.condK fun _ _ => ?_; simp [-getElem?_pos, List.getElem?_cons_zero, List.getElem?_cons_succ, List.getElem?_nil, ]) | (refine AWp.ret ?_; try simp only [thenP]) | (refine AWp.skip ?_; try simp only [thenP]) | (refine AWp.exit ?_; try simp only [thenP]) | (with_reducible refine BB.go ?_; simp only [blockP, thenP, if_true, if_false, reduceIte]) | (refine AWp.draws tabOk (by kernel_rfl) (by kernel_rfl) ?_; simp [-getElem?_pos, List.getElem?_cons_zero, List.getElem?_cons_succ, List.getElem?_nil, ]) | (with_reducible refine And.intro (show okLog _ _ = true from by kernel_rfl) ?_))
  refine AWp.loopK (ι := { k : Nat // k ≤ l.length }) (n := 3) (fun k => [(2, .ptr 0 0 0), (3, .ptr 1 0 0), (5, gS 2 2 (recRows (mkTo x lo hi l k.1))), (6, .d (recsD l)), (7, .d (iD k.1))]) (fun k => (0, .box 25 [.d (.list (rgRows x.bars)), .d (.list (stepRows x.steps))] false) :: (1, .box 33 [.d (iD lo), .d (iD hi)] false) :: gM 2 42 2 (recRows (mkTo x lo hi l k.1))) (fun k => l.length - k.1) ⟨0, Nat.zero_le _⟩ [0, 1, 2] ?_ ?_
  · refine ⟨by rfl, by simp [mkTo], by simp [or_imp, forall_and, mkTo] <;> (try (intro _hne; simp [_hne])), by decide⟩
  rintro ⟨k, hk⟩ kk
  have w1 : IntKind.i64.wrap ((k : Int) + 1) = (k : Int) + 1 := wrap64_in (by omega)
  have hlen := mkTo_len x lo hi l k
  by_cases hlt : k < l.length
  · obtain ⟨⟨r1, ways⟩, hx⟩ : ∃ r, l[k]? = some r := ⟨_, List.getElem?_eq_getElem hlt⟩
    obtain ⟨m, rfl, ok⟩ := hok _ (List.mem_of_getElem? hx)
    have hmc := made_c x m ways lo hi ok
    have hmr : madeR x lo hi ((m : Int), ways) = madeB x m ways lo hi := rfl
    rcases hmb : madeB x m ways lo hi <;> rw [hmb] at hmc hmr
    · have hs := mkTo_no hx hmr
      repeat (first | (with_reducible refine AWp.seqK fun _ => ?_) | (with_reducible refine AWp.blockK fun _ => ?_) | (with_reducible refine KK.go ?_) | (refine AWp.reg tabOk ?_; simp [-getElem?_pos, List.getElem?_cons_zero, List.getElem?_cons_succ, List.getElem?_nil, hlt, hx, w1]) | (refine AWp.condK fun _ _ => ?_; simp [-getElem?_pos, List.getElem?_cons_zero, List.getElem?_cons_succ, List.getElem?_nil, hlt, hx, w1]) | (refine AWp.ret ?_; try simp only [thenP]) | (refine AWp.skip ?_; try simp only [thenP]) | (refine AWp.exit ?_; try simp only [thenP]) | (with_reducible refine BB.go ?_; simp only [blockP, thenP, if_true, if_false, reduceIte]) | (refine AWp.draws tabOk (by kernel_rfl) (by kernel_rfl) ?_; simp [-getElem?_pos, List.getElem?_cons_zero, List.getElem?_cons_succ, List.getElem?_nil, hlt, hx, w1]) | (with_reducible refine And.intro (show okLog _ _ = true from by kernel_rfl) ?_))
      first | (refine Exec0.call [] hmc (by simp [-getElem?_pos, recD, hx]) rfl (by simp [-getElem?_pos, List.getElem?_cons_zero, List.getElem?_cons_succ, List.getElem?_nil, recD, hx]) ?_; simp [-getElem?_pos, List.getElem?_cons_zero, List.getElem?_cons_succ, List.getElem?_nil, recD, hx]) | (refine Exec.call [] hmc (by simp [-getElem?_pos, recD, hx]) rfl (by simp [-getElem?_pos, List.getElem?_cons_zero, List.getElem?_cons_succ, List.getElem?_nil, recD, hx]) ?_; simp [-getElem?_pos, List.getElem?_cons_zero, List.getElem?_cons_succ, List.getElem?_nil, recD, hx])
      repeat (first | (with_reducible refine AWp.seqK fun _ => ?_) | (with_reducible refine AWp.blockK fun _ => ?_) | (with_reducible refine KK.go ?_) | (refine AWp.reg tabOk ?_; simp [-getElem?_pos, List.getElem?_cons_zero, List.getElem?_cons_succ, List.getElem?_nil, hlt, hx, w1]) | (refine AWp.condK fun _ _ => ?_; simp [-getElem?_pos, List.getElem?_cons_zero, List.getElem?_cons_succ, List.getElem?_nil, hlt, hx, w1]) | (refine AWp.ret ?_; try simp only [thenP]) | (refine AWp.skip ?_; try simp only [thenP]) | (refine AWp.exit ?_; try simp only [thenP]) | (with_reducible refine BB.go ?_; simp only [blockP, thenP, if_true, if_false, reduceIte]) | (refine AWp.draws tabOk (by kernel_rfl) (by kernel_rfl) ?_; simp [-getElem?_pos, List.getElem?_cons_zero, List.getElem?_cons_succ, List.getElem?_nil, hlt, hx, w1]) | (with_reducible refine And.intro (show okLog _ _ = true from by kernel_rfl) ?_))
      refine LL.go ⟨k + 1, hlt⟩ [0, 1, 2] ⟨by rfl, by simp [hs], by simp [or_imp, forall_and, hs] <;> (try (intro _hne; simp [_hne])), by decide⟩ ?_
      simp; omega
    · have hs := mkTo_yes hx hmr
      have b1 : fitsB ((mkTo x lo hi l k).length + 1) 32 = true := fitsB_small (by omega) (by omega)
      by_cases hz : recRows (mkTo x lo hi l k) = []
      · repeat (first | (with_reducible refine AWp.seqK fun _ => ?_) | (with_reducible refine AWp.blockK fun _ => ?_) | (with_reducible refine KK.go ?_) | (refine AWp.reg tabOk ?_; simp [-getElem?_pos, List.getElem?_cons_zero, List.getElem?_cons_succ, List.getElem?_nil, hlt, hx, w1, hz]) | (refine AWp.condK fun _ _ => ?_; simp [-getElem?_pos, List.getElem?_cons_zero, List.getElem?_cons_succ, List.getElem?_nil, hlt, hx, w1, hz]) | (refine AWp.ret ?_; try simp only [thenP]) | (refine AWp.skip ?_; try simp only [thenP]) | (refine AWp.exit ?_; try simp only [thenP]) | (with_reducible refine BB.go ?_; simp only [blockP, thenP, if_true, if_false, reduceIte]) | (refine AWp.draws tabOk (by kernel_rfl) (by kernel_rfl) ?_; simp [-getElem?_pos, List.getElem?_cons_zero, List.getElem?_cons_succ, List.getElem?_nil, hlt, hx, w1, hz]) | (with_reducible refine And.intro (show okLog _ _ = true from by kernel_rfl) ?_))
        first | (refine Exec0.call [] hmc (by simp [-getElem?_pos, recD, hx]) rfl (by simp [-getElem?_pos, List.getElem?_cons_zero, List.getElem?_cons_succ, List.getElem?_nil, recD, hx]) ?_; simp [-getElem?_pos, List.getElem?_cons_zero, List.getElem?_cons_succ, List.getElem?_nil, recD, hx]) | (refine Exec.call [] hmc (by simp [-getElem?_pos, recD, hx]) rfl (by simp [-getElem?_pos, List.getElem?_cons_zero, List.getElem?_cons_succ, List.getElem?_nil, recD, hx]) ?_; simp [-getElem?_pos, List.getElem?_cons_zero, List.getElem?_cons_succ, List.getElem?_nil, recD, hx])
        repeat (first | (with_reducible refine AWp.seqK fun _ => ?_) | (with_reducible refine AWp.blockK fun _ => ?_) | (with_reducible refine KK.go ?_) | (refine AWp.reg tabOk ?_; simp [-getElem?_pos, List.getElem?_cons_zero, List.getElem?_cons_succ, List.getElem?_nil, hlt, hx, w1, hz]) | (refine AWp.condK fun _ _ => ?_; simp [-getElem?_pos, List.getElem?_cons_zero, List.getElem?_cons_succ, List.getElem?_nil, hlt, hx, w1, hz]) | (refine AWp.ret ?_; try simp only [thenP]) | (refine AWp.skip ?_; try simp only [thenP]) | (refine AWp.exit ?_; try simp only [thenP]) | (with_reducible refine BB.go ?_; simp only [blockP, thenP, if_true, if_false, reduceIte]) | (refine AWp.draws tabOk (by kernel_rfl) (by kernel_rfl) ?_; simp [-getElem?_pos, List.getElem?_cons_zero, List.getElem?_cons_succ, List.getElem?_nil, hlt, hx, w1, hz]) | (with_reducible refine And.intro (show okLog _ _ = true from by kernel_rfl) ?_))
        have hz2 : mkTo x lo hi l k = [] := by simpa [recRows] using hz
        refine LL.go ⟨k + 1, hlt⟩ [0, 1, 20] ⟨by rfl, by simp [hs, hz, hz2], by simp [or_imp, forall_and, hs, hz, hz2] <;> (try (intro _hne; simp [_hne])), by decide⟩ ?_
        simp; omega
      · repeat (first | (with_reducible refine AWp.seqK fun _ => ?_) | (with_reducible refine AWp.blockK fun _ => ?_) | (with_reducible refine KK.go ?_) | (refine AWp.reg tabOk ?_; simp [-getElem?_pos, List.getElem?_cons_zero, List.getElem?_cons_succ, List.getElem?_nil, hlt, hx, w1, gS_ne hz, hz]) | (refine AWp.condK fun _ _ => ?_; simp [-getElem?_pos, List.getElem?_cons_zero, List.getElem?_cons_succ, List.getElem?_nil, hlt, hx, w1, gS_ne hz, hz]) | (refine AWp.ret ?_; try simp only [thenP]) | (refine AWp.skip ?_; try simp only [thenP]) | (refine AWp.exit ?_; try simp only [thenP]) | (with_reducible refine BB.go ?_; simp only [blockP, thenP, if_true, if_false, reduceIte]) | (refine AWp.draws tabOk (by kernel_rfl) (by kernel_rfl) ?_; simp [-getElem?_pos, List.getElem?_cons_zero, List.getElem?_cons_succ, List.getElem?_nil, hlt, hx, w1, gS_ne hz, hz]) | (with_reducible refine And.intro (show okLog _ _ = true from by kernel_rfl) ?_))
        first | (refine Exec0.call [] hmc (by simp [-getElem?_pos, recD, hx]) rfl (by simp [-getElem?_pos, List.getElem?_cons_zero, List.getElem?_cons_succ, List.getElem?_nil, recD, hx]) ?_; simp [-getElem?_pos, List.getElem?_cons_zero, List.getElem?_cons_succ, List.getElem?_nil, recD, hx]) | (refine Exec.call [] hmc (by simp [-getElem?_pos, recD, hx]) rfl (by simp [-getElem?_pos, List.getElem?_cons_zero, List.getElem?_cons_succ, List.getElem?_nil, recD, hx]) ?_; simp [-getElem?_pos, List.getElem?_cons_zero, List.getElem?_cons_succ, List.getElem?_nil, recD, hx])
        repeat (first | (with_reducible refine AWp.seqK fun _ => ?_) | (with_reducible refine AWp.blockK fun _ => ?_) | (with_reducible refine KK.go ?_) | (refine AWp.reg tabOk ?_; simp [-getElem?_pos, List.getElem?_cons_zero, List.getElem?_cons_succ, List.getElem?_nil, hlt, hx, w1, gS_ne hz, hz, b1]) | (refine AWp.condK fun _ _ => ?_; simp [-getElem?_pos, List.getElem?_cons_zero, List.getElem?_cons_succ, List.getElem?_nil, hlt, hx, w1, gS_ne hz, hz, b1]) | (refine AWp.ret ?_; try simp only [thenP]) | (refine AWp.skip ?_; try simp only [thenP]) | (refine AWp.exit ?_; try simp only [thenP]) | (with_reducible refine BB.go ?_; simp only [blockP, thenP, if_true, if_false, reduceIte]) | (refine AWp.draws tabOk (by kernel_rfl) (by kernel_rfl) ?_; simp [-getElem?_pos, List.getElem?_cons_zero, List.getElem?_cons_succ, List.getElem?_nil, hlt, hx, w1, gS_ne hz, hz, b1]) | (with_reducible refine And.intro (show okLog _ _ = true from by kernel_rfl) ?_))
        refine LL.go ⟨k + 1, hlt⟩ [0, 1, 20] ⟨by rfl, by simp [hs, hz], by simp [or_imp, forall_and, hs, hz] <;> (try (intro _hne; simp [_hne])), by decide⟩ ?_
        simp; omega
  · obtain rfl : k = l.length := by omega
    repeat (first | (with_reducible refine AWp.seqK fun _ => ?_) | (with_reducible refine AWp.blockK fun _ => ?_) | (with_reducible refine KK.go ?_) | (refine AWp.reg tabOk ?_; simp [-getElem?_pos, List.getElem?_cons_zero, List.getElem?_cons_succ, List.getElem?_nil, hlt]) | (refine AWp.condK fun _ _ => ?_; simp [-getElem?_pos, List.getElem?_cons_zero, List.getElem?_cons_succ, List.getElem?_nil, hlt]) | (refine AWp.ret ?_; try simp only [thenP]) | (refine AWp.skip ?_; try simp only [thenP]) | (refine AWp.exit ?_; try simp only [thenP]) | (with_reducible refine BB.go ?_; simp only [blockP, thenP, if_true, if_false, reduceIte]) | (refine AWp.draws tabOk (by kernel_rfl) (by kernel_rfl) ?_; simp [-getElem?_pos, List.getElem?_cons_zero, List.getElem?_cons_succ, List.getElem?_nil, hlt]) | (with_reducible refine And.intro (show okLog _ _ = true from by kernel_rfl) ?_))
    refine RR.list (id := 2) (z := 2) (by simp) fun r o h => ?_
    simp [h]
end Go.Proofs.Ytigpefjeelgfdaa.Eng

/-
  Layer 1, plain: all recipes of a works one by one, and what is counted of them.
-/
namespace Go.Proofs.Ytigpefjeelgfdaa.Eng
open Go.RowKit

/-- All choices of ways for d steps, from step s on. -/
def tails (x : Works) : Nat → Nat → List (List Int)
  | 0, _ => [[]]
  | d + 1, s => (List.range (stepAt x.steps s).length).flatMap fun (k : Nat) => (tails x d (s + 1)).map ((k : Int) :: ·)
theorem tails_succ (x : Works) (d s : Nat) : tails x (d + 1) s = (List.range (stepAt x.steps s).length).flatMap fun (k : Nat) => (tails x d (s + 1)).map ((k : Int) :: ·) := rfl
theorem tails_snoc (x : Works) : ∀ d s, tails x (d + 1) s = (tails x d s).flatMap fun ws => (List.range (stepAt x.steps (s + d)).length).map fun (k : Nat) => ws ++ [(k : Int)]
  | 0, s => by
    simp only [tails, List.map_cons, List.map_nil, List.flatMap_cons, List.flatMap_nil, List.append_nil, List.nil_append, Nat.add_zero]
    exact List.map_eq_flatMap.symm
  | d + 1, s => by
    have ih := tails_snoc x d (s + 1)
    rw [tails_succ x (d + 1) s, ih, tails_succ x d s]
    simp only [List.map_flatMap, List.flatMap_assoc, List.flatMap_map, List.map_map]
    rw [show s + 1 + d = s + (d + 1) by omega]
    rfl
theorem recsTo_tails (x : Works) : ∀ i, i ≤ x.steps.length → recsTo x i = (List.range x.bars.length).flatMap fun (b : Nat) => (tails x i 0).map fun ws => ((b : Int), ws)
  | 0, _ => by
    simp only [recsTo, barRecs, tails, List.map_cons, List.map_nil]
    exact List.map_eq_flatMap
  | i + 1, hi => by
    obtain ⟨ws, hws⟩ : ∃ ws, x.steps[i]? = some ws := ⟨_, List.getElem?_eq_getElem (by omega)⟩
    have hl : stepAt x.steps (0 + i) = ws := by rw [Nat.zero_add]; exact stepAt_of (Lib.hid hws)
    have e : recsTo x (i + 1) = extTo (recsTo x i) ws.length (recsTo x i).length := by simp only [recsTo, hws]
    rw [e, extTo, List.take_of_length_le (Nat.le_refl _), recsTo_tails x i (by omega), tails_snoc, hl]
    simp only [List.map_flatMap, List.flatMap_assoc, List.flatMap_map, List.map_map, ext1]
    rfl
theorem tails_mem (x : Works) : ∀ d s ws, ws ∈ tails x d s → ws.length = d ∧ ∀ i, i < d → ∃ k : Nat, ws[i]? = some (k : Int) ∧ k < (stepAt x.steps (s + i)).length
  | 0, s, ws, h => by
    simp only [tails, List.mem_singleton] at h
    subst h
    exact ⟨rfl, fun i hi => by omega⟩
  | d + 1, s, ws, h => by
    rw [tails_succ, List.mem_flatMap] at h
    obtain ⟨k, hk, h⟩ := h
    obtain ⟨ws', hw, rfl⟩ := List.mem_map.1 h
    obtain ⟨h1, h2⟩ := tails_mem x d (s + 1) ws' hw
    refine ⟨by simp [h1], fun i hi => ?_⟩
    match i with
    | 0 => exact ⟨k, rfl, by simpa using hk⟩
    | i + 1 =>
      obtain ⟨k', e1, e2⟩ := h2 i (by omega)
      exact ⟨k', by simpa using e1, by rw [show s + (i + 1) = s + 1 + i by omega]; exact e2⟩
theorem recs_mem {x : Works} {r : Rec} (h : r ∈ recsTo x x.steps.length) : ∃ b : Nat, b < x.bars.length ∧ r.1 = (b : Int) ∧ r.2 ∈ tails x x.steps.length 0 := by
  rw [recsTo_tails x _ (Nat.le_refl _), List.mem_flatMap] at h
  obtain ⟨b, hb, h⟩ := h
  obtain ⟨ws, hw, rfl⟩ := List.mem_map.1 h
  exact ⟨b, by simpa using hb, rfl, hw⟩
theorem recs_ok {x : Works} (hx : worksErr x = 0) {b : Nat} (hb : b < x.bars.length) {ws : List Int} (h : ws ∈ tails x x.steps.length 0) : RecOk x (b : Int) ws := by
  obtain ⟨h1, h2⟩ := tails_mem x _ _ _ h
  refine ⟨hx, h1, by omega, by omega, fun i hi => ?_⟩
  obtain ⟨k, e1, e2⟩ := h2 i (by omega)
  rw [Nat.zero_add] at e2
  simp only [wayIn, intAt, List.getD_eq_getElem?_getD, e1, Option.getD_some, decide_eq_true_eq]
  omega

/-- The range that ways lead to, from step s on. -/
def rngFrom (x : Works) : Nat → Rg → List Int → Rg
  | _, r, [] => r
  | s, r, k :: ws => rngFrom x (s + 1) (thrAt x s k.toNat r.1 r.2) ws
theorem rngN_from {x : Works} {m : Nat} {ways : List Int} : ∀ (ws : List Int) (s : Nat), ways.drop s = ws → rngN x m ways (s + ws.length) = rngFrom x s (rngN x m ways s) ws
  | [], s, _ => rfl
  | k :: ws, s, h => by
    have h1 : ways[s]? = some k := by rw [← List.head?_drop, h]; rfl
    have h2 : ways.drop (s + 1) = ws := by rw [← List.tail_drop, h]; rfl
    have e : rngN x m ways (s + 1) = thrAt x s k.toNat (rngN x m ways s).1 (rngN x m ways s).2 := by
      simp only [rngN, wayOf, thrAt, thr, intAt, List.getD_eq_getElem?_getD, h1, Option.getD_some]
    rw [List.length_cons, show s + (ws.length + 1) = s + 1 + ws.length by omega, rngN_from ws (s + 1) h2, e]
    rfl
def over (mlo mhi : Int) (r : Rg) : Bool := decide (r.1 ≤ mhi) && decide (mlo ≤ r.2)
theorem made_over {x : Works} {b : Nat} {ws : List Int} (h : ws ∈ tails x x.steps.length 0) (mlo mhi : Int) : madeR x mlo mhi ((b : Int), ws) = over mlo mhi (rngFrom x 0 (rgAt x.bars b) ws) := by
  obtain ⟨h1, _⟩ := tails_mem x _ _ _ h
  have := rngN_from (x := x) (m := b) (ways := ws) ws 0 rfl
  rw [h1, Nat.zero_add] at this
  simp only [madeR, madeB, Int.toNat_natCast, this, over]
  rfl

theorem sumTo_congr {f g : Nat → Nat} (h : ∀ i, f i = g i) (n : Nat) : sumTo f n = sumTo g n := by rw [show f = g from funext h]
theorem sumTo_congr_lt {f g : Nat → Nat} : ∀ n, (∀ i, i < n → f i = g i) → sumTo f n = sumTo g n
  | 0, _ => rfl
  | n + 1, h => by rw [sumTo, sumTo, sumTo_congr_lt n fun i hi => h i (by omega), h n (by omega)]
theorem sumTo_zero : ∀ n, sumTo (fun _ => 0) n = 0
  | 0 => rfl
  | n + 1 => by rw [sumTo, sumTo_zero n]
theorem sumTo_pick (g : Nat → Nat) (j : Int) : ∀ n, sumTo (fun (k : Nat) => if (k : Int) = j then g k else 0) n = if 0 ≤ j ∧ j < n then g j.toNat else 0
  | 0 => by rw [if_neg (by omega)]; rfl
  | n + 1 => by
    rw [sumTo, sumTo_pick g j n]
    by_cases h : (n : Int) = j
    · subst h
      rw [if_neg (by omega), if_pos rfl, if_pos (by omega), Int.toNat_natCast]; omega
    · rw [if_neg h]
      by_cases h2 : 0 ≤ j ∧ j < n
      · rw [if_pos h2, if_pos (by omega)]; omega
      · rw [if_neg h2, if_neg (by omega)]
theorem countP_flat {β : Type} (p : β → Bool) (f : Nat → List β) : ∀ n, ((List.range n).flatMap f).countP p = sumTo (fun i => (f i).countP p) n
  | 0 => rfl
  | n + 1 => by
    rw [List.range_succ, List.flatMap_append, List.countP_append, countP_flat p f n, sumTo]
    simp only [List.flatMap_cons, List.flatMap_nil, List.append_nil]
theorem cntN_eq (x : Works) (mlo mhi : Int) : ∀ d s lo hi, cntN x mlo mhi d s lo hi = (tails x d s).countP fun ws => over mlo mhi (rngFrom x s (lo, hi) ws)
  | 0, s, lo, hi => by
    by_cases a : lo ≤ mhi <;> by_cases b : mlo ≤ hi <;> simp [cntN, tails, List.countP_cons, rngFrom, over, a, b]
  | d + 1, s, lo, hi => by
    rw [cntN, tails_succ, countP_flat]
    refine sumTo_congr (fun k => ?_) _
    rw [cntN_eq x mlo mhi d (s + 1), List.countP_map]
    rfl
def atB (s : Nat) (t j : Int) (ws : List Int) : Bool := decide ((s : Int) ≤ t) && (ws[(t - s).toNat]? == some j)
theorem addN_eq (x : Works) (mlo mhi : Int) : ∀ d s lo hi t j, addN x mlo mhi d s lo hi t j = (tails x d s).countP fun ws => over mlo mhi (rngFrom x s (lo, hi) ws) && atB s t j ws
  | 0, s, lo, hi, t, j => by simp [addN, tails, atB]
  | d + 1, s, lo, hi, t, j => by
    rw [addN, tails_succ, countP_flat]
    by_cases ht : t = s
    · subst ht
      rw [sumTo_congr (g := fun _ => 0) (fun i => ?_), sumTo_zero, Nat.add_zero]
      · rw [sumTo_congr (g := fun (k : Nat) => if (k : Int) = j then cntN x mlo mhi d (s + 1) (thrAt x s k lo hi).1 (thrAt x s k lo hi).2 else 0) (fun k => ?_), sumTo_pick]
        · simp
        · rw [List.countP_map, cntN_eq]
          by_cases hk : (k : Int) = j
          · rw [if_pos hk]
            refine List.countP_congr fun ws _ => ?_
            simp [atB, hk, rngFrom]
            subst hk
            simp
          · rw [if_neg hk, List.countP_eq_zero]
            intro ws _
            simp [atB, hk]
      · rw [addN_eq x mlo mhi d (s + 1), List.countP_eq_zero]
        intro ws _
        simp [atB]
        omega
    · rw [if_neg (by omega), Nat.zero_add]
      refine sumTo_congr (fun k => ?_) _
      rw [addN_eq x mlo mhi d (s + 1), List.countP_map]
      refine List.countP_congr fun ws _ => ?_
      have e : atB (s + 1) t j ws = atB s t j ((k : Int) :: ws) := by
        unfold atB
        by_cases h : (s : Int) ≤ t
        · have h2 : (t - s).toNat = (t - (s + 1 : Nat)).toNat + 1 := by omega
          have h3 : ((s + 1 : Nat) : Int) ≤ t := by omega
          rw [h2, List.getElem?_cons_succ]
          simp only [h, h3, decide_true]
        · have h3 : ¬ ((s + 1 : Nat) : Int) ≤ t := by omega
          simp only [h, h3, decide_false, Bool.false_and]
      rw [e]
      rfl
theorem totN_eq (x : Works) (mlo mhi : Int) : totN x mlo mhi = (recsTo x x.steps.length).countP (madeR x mlo mhi) := by
  rw [recsTo_tails x _ (Nat.le_refl _), countP_flat, totN]
  refine sumTo_congr (fun b => ?_) _
  rw [cntBar, cntN_eq, List.countP_map]
  refine List.countP_congr fun ws hw => ?_
  rw [Function.comp, made_over hw]
/-- A recipe has the bar (-1), or at step t the way, j. -/
def hasB (t j : Int) (r : Rec) : Bool := if t < 0 then r.1 == j else r.2[t.toNat]? == some j
theorem plcN_eq (x : Works) (mlo mhi t j : Int) (ht : -1 ≤ t) : plcN x mlo mhi t j = (recsTo x x.steps.length).countP fun r => madeR x mlo mhi r && hasB t j r := by
  rw [recsTo_tails x _ (Nat.le_refl _), countP_flat, plcN, totTo]
  by_cases h : t = -1
  · subst h
    rw [sumTo_congr (f := fun i => addN x mlo mhi x.steps.length 0 (rgAt x.bars i).1 (rgAt x.bars i).2 (-1) j) (g := fun _ => 0) (fun i => ?_), sumTo_zero, Nat.add_zero]
    · rw [sumTo_congr (g := fun (b : Nat) => if (b : Int) = j then cntBar x mlo mhi b else 0) (fun b => ?_), sumTo_pick]
      · simp
      · rw [List.countP_map, cntBar, cntN_eq]
        by_cases hk : (b : Int) = j
        · rw [if_pos hk]
          refine List.countP_congr fun ws hw => ?_
          rw [Function.comp, made_over hw]
          simp [hasB, hk]
        · rw [if_neg hk, List.countP_eq_zero]
          intro ws _
          simp [hasB, hk]
    · rw [addN_eq, List.countP_eq_zero]
      intro ws _
      simp [atB]
  · rw [if_neg (by omega), Nat.zero_add]
    refine sumTo_congr (fun b => ?_) _
    rw [List.countP_map, addN_eq]
    refine List.countP_congr fun ws hw => ?_
    rw [Function.comp, made_over hw]
    have h0 : (0 : Int) ≤ t := by omega
    have h1 : ¬ t < 0 := by omega
    simp [hasB, atB, h0, h1]
end Go.Proofs.Ytigpefjeelgfdaa.Eng

/-
  Layer 1, plain: what the reference counts is what package heat counts.
-/
namespace Go.Proofs.Ytigpefjeelgfdaa.Eng
open Go.RowKit

def prodTo (x : Works) : Nat → Nat
  | 0 => x.bars.length
  | i + 1 => prodTo x i * (stepAt x.steps i).length
theorem recsTo_len (x : Works) : ∀ i, i ≤ x.steps.length → (recsTo x i).length = prodTo x i
  | 0, _ => barRecs_len _
  | i + 1, hi => by
    obtain ⟨ws, hws⟩ : ∃ ws, x.steps[i]? = some ws := ⟨_, List.getElem?_eq_getElem (by omega)⟩
    have e : recsTo x (i + 1) = extTo (recsTo x i) ws.length (recsTo x i).length := by simp only [recsTo, hws]
    rw [e, extTo_len, List.take_of_length_le (Nat.le_refl _), recsTo_len x i (by omega), prodTo, stepAt_of (Lib.hid hws)]
theorem recsTo_over (x : Works) : ∀ e, recsTo x (x.steps.length + e) = recsTo x x.steps.length
  | 0 => rfl
  | e + 1 => by
    have h : x.steps[x.steps.length + e]? = none := List.getElem?_eq_none (by omega)
    have := recsTo_over x e
    rw [← Nat.add_assoc, recsTo, h]
    exact this
theorem bars_few {x : Works} (h : worksErr x = 0) : 1 ≤ x.bars.length ∧ x.bars.length ≤ 6 ∧ x.steps.length ≤ 6 := by
  have h1 := (worksOk_iff.1 h).1
  simp only [manyOk, Bool.and_eq_true, Bool.not_eq_true', decide_eq_false_iff_not] at h1
  omega
theorem ways_some {x : Works} (h : worksErr x = 0) {s : Nat} (hs : s < x.steps.length) : 1 ≤ (stepAt x.steps s).length := by
  have h1 := (worksOk_iff.1 h).1
  simp only [manyOk, Bool.and_eq_true] at h1
  have hw : x.steps[s]? = some x.steps[s] := List.getElem?_eq_getElem hs
  have := List.all_eq_true.1 h1.2 _ (List.mem_of_getElem? hw)
  rw [stepAt_of (Lib.hid hw)]
  simp only [waysMany, Bool.not_eq_true', decide_eq_false_iff_not] at this
  omega
theorem prod_mono {x : Works} (h : worksErr x = 0) (i : Nat) : ∀ e, i + e ≤ x.steps.length → prodTo x i ≤ prodTo x (i + e)
  | 0, _ => Nat.le_refl _
  | e + 1, he => by
    have h1 := prod_mono h i e (by omega)
    have h2 := ways_some h (s := i + e) (by omega)
    rw [← Nat.add_assoc, prodTo]
    exact Nat.le_trans h1 (Nat.le_mul_of_pos_right _ h2)
theorem prod_le {x : Works} (h : worksErr x = 0) : ∀ i, prodTo x i ≤ 6 * 5 ^ i
  | 0 => by have := bars_few h; simp [prodTo]; omega
  | i + 1 => by
    rw [prodTo, Nat.pow_succ, ← Nat.mul_assoc]
    exact Nat.mul_le_mul (prod_le h i) (ways_few h i)
theorem prod_few {x : Works} (h : worksErr x = 0) {i : Nat} (hi : i ≤ 6) : prodTo x i ≤ 93750 :=
  Nat.le_trans (prod_le h i) (Nat.le_trans (Nat.mul_le_mul_left 6 (Nat.pow_le_pow_right (by omega) hi)) (by decide))
/-- More recipes than a statement tries. -/
def fullB (x : Works) : Bool := decide (worksErr x = 0) && decide (400 < prodTo x x.steps.length)
theorem recs_few {x : Works} (h : worksErr x = 0) (hp : prodTo x x.steps.length ≤ 400) (i : Nat) : (recsTo x i).length ≤ 1000 := by
  rcases Nat.le_total i x.steps.length with hi | hi
  · rw [recsTo_len x i hi]
    have := prod_mono h i (x.steps.length - i) (by omega)
    rw [show i + (x.steps.length - i) = x.steps.length by omega] at this
    omega
  · rw [show i = x.steps.length + (i - x.steps.length) by omega, recsTo_over, recsTo_len x _ (Nat.le_refl _)]
    omega
theorem recs_short {x : Works} (h : worksErr x = 0) (i : Nat) : ∀ r ∈ recsTo x i, r.2.length ≤ 1000 := by
  have key : ∀ i, i ≤ x.steps.length → ∀ r ∈ recsTo x i, r.2.length ≤ 1000 := by
    intro i hi r hr
    rw [recsTo_tails x i hi, List.mem_flatMap] at hr
    obtain ⟨b, _, hr⟩ := hr
    obtain ⟨ws, hw, rfl⟩ := List.mem_map.1 hr
    have := (tails_mem x _ _ _ hw).1
    have := (bars_few h).2.2
    show ws.length ≤ 1000
    omega
  rcases Nat.le_total i x.steps.length with hi | hi
  · exact key i hi
  · rw [show i = x.steps.length + (i - x.steps.length) by omega, recsTo_over]
    exact key _ (Nat.le_refl _)
theorem recipes_c {x : Works} (h : worksErr x = 0) (hp : prodTo x x.steps.length ≤ 400) : ACall Try.prog 50 [worksD x] (recsD (recsTo x x.steps.length)) := by
  have hf := bars_few h
  refine recipes_ok x (by omega) (by omega) (fun ws hws => ?_) (recs_short h) (recs_few h hp)
  obtain ⟨s, hs⟩ := List.getElem?_of_mem hws
  have := ways_few h s
  rw [stepAt_of (Lib.hid hs)] at this
  omega
theorem recsOk {x : Works} (h : worksErr x = 0) (hp : prodTo x x.steps.length ≤ 400) : RecsOk x (recsTo x x.steps.length) :=
  ⟨fun r hr => by
    obtain ⟨b, hb, e, hw⟩ := recs_mem hr
    exact ⟨b, e, recs_ok h hb hw⟩, recs_few h hp _⟩
/-- All recipes that can have made a blade. -/
def mkN (x : Works) (lo hi : Int) : List Rec := (recsTo x x.steps.length).filter (madeR x lo hi)
theorem makers_c {x : Works} (h : worksErr x = 0) (hp : prodTo x x.steps.length ≤ 400) (lo hi : Int) : ACall Try.prog 75 [worksD x, rgD lo hi] (recsD (mkN x lo hi)) := by
  have := makers_ok x lo hi _ (recsOk h hp) (recipes_c h hp)
  rwa [mkTo, List.take_of_length_le (Nat.le_refl _)] at this
theorem mkN_len (x : Works) (lo hi : Int) : (mkN x lo hi).length = totN x lo hi := by rw [totN_eq, List.countP_eq_length_filter, mkN]
theorem mkN_few {x : Works} (h : worksErr x = 0) (hp : prodTo x x.steps.length ≤ 400) (lo hi : Int) : (mkN x lo hi).length ≤ 1000 := Nat.le_trans (List.length_filter_le _ _) (recs_few h hp _)
theorem mk_mem {x : Works} {lo hi : Int} {r : Rec} (h : r ∈ mkN x lo hi) : ∃ b : Nat, b < x.bars.length ∧ r.1 = (b : Int) ∧ r.2 ∈ tails x x.steps.length 0 := recs_mem (List.mem_filter.1 h).1
/-- What a recipe has at a step. -/
theorem of_has {x : Works} {r : Rec} {t : Int} (h1 : -1 ≤ t) (h2 : t < x.steps.length) (hr : ∃ b : Nat, b < x.bars.length ∧ r.1 = (b : Int) ∧ r.2 ∈ tails x x.steps.length 0) :
    t < r.2.length ∧ ∃ k : Nat, ofN r t = (k : Int) ∧ k < nCh x t ∧ ∀ j : Int, hasB t j r = ((k : Int) == j) := by
  obtain ⟨b, hb, e, hw⟩ := hr
  obtain ⟨w1, w2⟩ := tails_mem x _ _ _ hw
  refine ⟨by omega, ?_⟩
  by_cases h : t = -1
  · subst h
    exact ⟨b, by simp [ofN, e], by simpa [nCh] using hb, fun j => by simp [hasB, e]⟩
  · obtain ⟨s, rfl⟩ := Int.eq_ofNat_of_zero_le (show 0 ≤ t by omega)
    obtain ⟨k, k1, k2⟩ := w2 s (by omega)
    rw [Nat.zero_add] at k2
    have h0 : ¬ (s : Int) < 0 := by omega
    refine ⟨k, by simp [ofN, h0, k1], by rw [nCh, if_neg h, Int.toNat_natCast]; exact k2, fun j => ?_⟩
    simp [hasB, h0, k1]
theorem bump_plc {x : Works} (h : worksErr x = 0) (lo hi : Int) {t : Int} (h1 : -1 ≤ t) (h2 : t < x.steps.length) {j : Nat} (hj : j < 6) : (bumps (mkN x lo hi) t (mkN x lo hi).length).getD j 0 = (plcN x lo hi t j : Int) := by
  rw [bumps_val, List.take_of_length_le (Nat.le_refl _), plcN_eq x lo hi t j h1, ← List.countP_eq_length_filter, mkN, List.countP_filter]
  congr 1
  refine List.countP_congr fun r hr => ?_
  obtain ⟨_, k, k1, _, k3⟩ := of_has h1 h2 (recs_mem hr)
  rw [k3, k1, Int.toNat_natCast]
  simp [hj, and_comm]
  omega
theorem plc_zero {x : Works} (lo hi : Int) {t : Int} (h1 : -1 ≤ t) (h2 : t < x.steps.length) {j : Nat} (hj : nCh x t ≤ j) : plcN x lo hi t j = 0 := by
  rw [plcN_eq x lo hi t j h1, List.countP_eq_zero]
  intro r hr
  obtain ⟨_, k, _, k2, k3⟩ := of_has h1 h2 (recs_mem hr)
  have : ¬ (k : Int) = j := by omega
  rw [k3]
  simp [this]
theorem leftTo_more (f : Int → Int → Nat) (t : Int) (n : Nat) : ∀ e, (∀ j : Nat, n ≤ j → f t j = 0) → leftTo f t (n + e) = leftTo f t n
  | 0, _ => rfl
  | e + 1, h => by
    rw [← Nat.add_assoc, leftTo, if_pos (h (n + e) (by omega))]
    exact leftTo_more f t n e h
theorem worstTo_more (f : Int → Int → Nat) (t : Int) (n : Nat) : ∀ e, (∀ j : Nat, n ≤ j → f t j = 0) → worstTo f t (n + e) = worstTo f t n
  | 0, _ => rfl
  | e + 1, h => by
    rw [← Nat.add_assoc, worstTo, h (n + e) (by omega), worstTo_more f t n e h]
    omega
theorem leftTo_some {f : Int → Int → Nat} {t : Int} {l : List Int} : ∀ k, (∀ j : Nat, j < k → l.getD j 0 = (f t j : Int)) → leftTo f t k = someL l k
  | 0, _ => rfl
  | k + 1, h => by
    have h1 := leftTo_some k fun j hj => h j (by omega)
    have h2 := h k (by omega)
    rw [leftTo, h1]
    by_cases h0 : f t k = 0
    · rw [if_pos h0]
      simp [someL, List.range_succ, List.filter_append, List.getD_eq_getElem?_getD] at h2 ⊢
      simp [h2, h0]
    · rw [if_neg h0]
      simp [someL, List.range_succ, List.filter_append, List.getD_eq_getElem?_getD] at h2 ⊢
      have : 0 < f t k := by omega
      simp [h2, this]
/-- **The reference's list of what is left is the package's.** -/
theorem some_left {x : Works} (h : worksErr x = 0) (lo hi : Int) {t : Int} (h1 : -1 ≤ t) (h2 : t < x.steps.length) : someL (bumps (mkN x lo hi) t (mkN x lo hi).length) 6 = leftN x lo hi t := by
  rw [← leftTo_some 6 fun j hj => bump_plc h lo hi h1 h2 hj, leftN]
  have := leftTo_more (plcN x lo hi) t (nCh x t) (6 - nCh x t) fun j hj => plc_zero lo hi h1 h2 hj
  rw [← this]
  have := nCh_few h t
  congr 1
  omega
theorem worst_six {x : Works} (h : worksErr x = 0) (lo hi : Int) {t : Int} (h1 : -1 ≤ t) (h2 : t < x.steps.length) : worstTo (plcN x lo hi) t 6 = worstAt x lo hi t := by
  have := worstTo_more (plcN x lo hi) t (nCh x t) (6 - nCh x t) fun j hj => plc_zero lo hi h1 h2 hj
  rw [worstAt, ← this]
  have := nCh_few h t
  congr 1
  omega
theorem counts_c {x : Works} (h : worksErr x = 0) (hp : prodTo x x.steps.length ≤ 400) (lo hi : Int) {t : Int} (h1 : -1 ≤ t) (h2 : t < x.steps.length) :
    ACall Try.prog 77 [worksD x, recsD (mkN x lo hi), iD t] (intL (bumps (mkN x lo hi) t (mkN x lo hi).length)) := by
  refine counts_ok (worksD x) ⟨_, rfl⟩ _ t (mkN_few h hp lo hi) fun r hr => ?_
  obtain ⟨h3, k, k1, k2, _⟩ := of_has h1 h2 (mk_mem hr)
  have := nCh_few h t
  exact ⟨h3, by omega, by omega⟩
theorem someCounts_c {x : Works} (h : worksErr x = 0) (lo hi : Int) {t : Int} (h1 : -1 ≤ t) (h2 : t < x.steps.length) :
    ACall Try.prog 76 [intL (bumps (mkN x lo hi) t (mkN x lo hi).length)] (intL (leftN x lo hi t)) := by
  have := some_ok (bumps (mkN x lo hi) t (mkN x lo hi).length) (by rw [bumps_len]; omega)
  rw [bumps_len, some_left h lo hi h1 h2] at this
  exact this
end Go.Proofs.Ytigpefjeelgfdaa.Eng

/-
  Layer 1's reference, by the engine: Bars, Ways, Count, Ask.
-/
namespace Go.Proofs.Ytigpefjeelgfdaa.Eng
open Go.RowKit

theorem mea_mak (x : Works) (lo hi : Int) : meaErr x lo hi = makErr x lo hi := rfl
set_option maxRecDepth 100000 in
set_option maxHeartbeats 4000000 in
theorem refBars_c (x : Works) (lo hi : Int) (hp : worksErr x = 0 → prodTo x x.steps.length ≤ 400) : ACall Try.prog 34 [worksD x, rgD lo hi] (ansD (someErr x lo hi) (iRows (leftN x lo hi (-1)))) := by
  have hm := measured_c x lo hi
  rw [mea_mak] at hm
  by_cases g : makErr x lo hi = 0
  · have hx : worksErr x = 0 := by
      unfold makErr at g
      by_cases h : worksErr x = 0
      · exact h
      · rw [if_pos h] at g; exact absurd g h
    have hmk := makers_c hx (hp hx) lo hi
    have hlen := mkN_len x lo hi
    rw [g] at hm
    by_cases g2 : totN x lo hi = 0
    · have he : someErr x lo hi = 17 := by rw [someErr, if_neg (by simpa using g), if_pos g2]
      rw [he, ansD]
      obtain hnil : mkN x lo hi = [] := List.length_eq_zero_iff.1 (by omega)
      rw [hnil] at hmk
      refine acallK Try.func34 rfl rfl (show 2 ≤ _ by decide) rfl fun _ => ?_; simp only [Try.ntmps34]
      repeat (first | (with_reducible refine AWp.seqK fun _ => ?_) | (with_reducible refine AWp.blockK fun _ => ?_) | (with_reducible refine KK.go ?_) | (refine AWp.reg tabOk ?_; simp [-getElem?_pos, List.getElem?_cons_zero, List.getElem?_cons_succ, List.getElem?_nil, ]) | (refine AWp.condK fun _ _ => ?_; simp [-getElem?_pos, List.getElem?_cons_zero, List.getElem?_cons_succ, List.getElem?_nil, ]) | (refine AWp.ret ?_; try simp only [thenP]) | (refine AWp.skip ?_; try simp only [thenP]) | (refine AWp.exit ?_; try simp only [thenP]) | (with_reducible refine BB.go ?_; simp only [blockP, thenP, if_true, if_false, reduceIte]) | (refine AWp.draws tabOk (by kernel_rfl) (by kernel_rfl) ?_; simp [-getElem?_pos, List.getElem?_cons_zero, List.getElem?_cons_succ, List.getElem?_nil, ]) | (with_reducible refine And.intro (show okLog _ _ = true from by kernel_rfl) ?_))
      first | (refine Exec0.call [] hm (by simp [-getElem?_pos, ]) rfl (by simp [-getElem?_pos, List.getElem?_cons_zero, List.getElem?_cons_succ, List.getElem?_nil, ]) ?_; simp [-getElem?_pos, List.getElem?_cons_zero, List.getElem?_cons_succ, List.getElem?_nil, ]) | (refine Exec.call [] hm (by simp [-getElem?_pos, ]) rfl (by simp [-getElem?_pos, List.getElem?_cons_zero, List.getElem?_cons_succ, List.getElem?_nil, ]) ?_; simp [-getElem?_pos, List.getElem?_cons_zero, List.getElem?_cons_succ, List.getElem?_nil, ])
      repeat (first | (with_reducible refine AWp.seqK fun _ => ?_) | (with_reducible refine AWp.blockK fun _ => ?_) | (with_reducible refine KK.go ?_) | (refine AWp.reg tabOk ?_; simp [-getElem?_pos, List.getElem?_cons_zero, List.getElem?_cons_succ, List.getElem?_nil, ]) | (refine AWp.condK fun _ _ => ?_; simp [-getElem?_pos, List.getElem?_cons_zero, List.getElem?_cons_succ, List.getElem?_nil, ]) | (refine AWp.ret ?_; try simp only [thenP]) | (refine AWp.skip ?_; try simp only [thenP]) | (refine AWp.exit ?_; try simp only [thenP]) | (with_reducible refine BB.go ?_; simp only [blockP, thenP, if_true, if_false, reduceIte]) | (refine AWp.draws tabOk (by kernel_rfl) (by kernel_rfl) ?_; simp [-getElem?_pos, List.getElem?_cons_zero, List.getElem?_cons_succ, List.getElem?_nil, ]) | (with_reducible refine And.intro (show okLog _ _ = true from by kernel_rfl) ?_))
      first | (refine Exec0.call [] hmk (by simp [-getElem?_pos, ]) rfl (by simp [-getElem?_pos, List.getElem?_cons_zero, List.getElem?_cons_succ, List.getElem?_nil, ]) ?_; simp [-getElem?_pos, List.getElem?_cons_zero, List.getElem?_cons_succ, List.getElem?_nil, ]) | (refine Exec.call [] hmk (by simp [-getElem?_pos, ]) rfl (by simp [-getElem?_pos, List.getElem?_cons_zero, List.getElem?_cons_succ, List.getElem?_nil, ]) ?_; simp [-getElem?_pos, List.getElem?_cons_zero, List.getElem?_cons_succ, List.getElem?_nil, ])
      repeat (first | (with_reducible refine AWp.seqK fun _ => ?_) | (with_reducible refine AWp.blockK fun _ => ?_) | (with_reducible refine KK.go ?_) | (refine AWp.reg tabOk ?_; simp [-getElem?_pos, List.getElem?_cons_zero, List.getElem?_cons_succ, List.getElem?_nil, ]) | (refine AWp.condK fun _ _ => ?_; simp [-getElem?_pos, List.getElem?_cons_zero, List.getElem?_cons_succ, List.getElem?_nil, ]) | (refine AWp.ret ?_; try simp only [thenP]) | (refine AWp.skip ?_; try simp only [thenP]) | (refine AWp.exit ?_; try simp only [thenP]) | (with_reducible refine BB.go ?_; simp only [blockP, thenP, if_true, if_false, reduceIte]) | (refine AWp.draws tabOk (by kernel_rfl) (by kernel_rfl) ?_; simp [-getElem?_pos, List.getElem?_cons_zero, List.getElem?_cons_succ, List.getElem?_nil, ]) | (with_reducible refine And.intro (show okLog _ _ = true from by kernel_rfl) ?_))
      (first | refine RR.ret ?_ | refine RR.normal ?_); simp []
    · have he : someErr x lo hi = 0 := by rw [someErr, if_neg (by simpa using g), if_neg g2]
      have hc := counts_c hx (hp hx) lo hi (t := -1) (by omega) (by omega)
      have hs := someCounts_c hx lo hi (t := -1) (by omega) (by omega)
      have h0 : ¬ (mkN x lo hi).length = 0 := by omega
      have h1 : ¬ mkN x lo hi = [] := fun h => h0 (by rw [h]; rfl)
      rw [he, ansD, if_pos rfl]
      refine acallK Try.func34 rfl rfl (show 2 ≤ _ by decide) rfl fun _ => ?_; simp only [Try.ntmps34]
      repeat (first | (with_reducible refine AWp.seqK fun _ => ?_) | (with_reducible refine AWp.blockK fun _ => ?_) | (with_reducible refine KK.go ?_) | (refine AWp.reg tabOk ?_; simp [-getElem?_pos, List.getElem?_cons_zero, List.getElem?_cons_succ, List.getElem?_nil, ]) | (refine AWp.condK fun _ _ => ?_; simp [-getElem?_pos, List.getElem?_cons_zero, List.getElem?_cons_succ, List.getElem?_nil, ]) | (refine AWp.ret ?_; try simp only [thenP]) | (refine AWp.skip ?_; try simp only [thenP]) | (refine AWp.exit ?_; try simp only [thenP]) | (with_reducible refine BB.go ?_; simp only [blockP, thenP, if_true, if_false, reduceIte]) | (refine AWp.draws tabOk (by kernel_rfl) (by kernel_rfl) ?_; simp [-getElem?_pos, List.getElem?_cons_zero, List.getElem?_cons_succ, List.getElem?_nil, ]) | (with_reducible refine And.intro (show okLog _ _ = true from by kernel_rfl) ?_))
      first | (refine Exec0.call [] hm (by simp [-getElem?_pos, ]) rfl (by simp [-getElem?_pos, List.getElem?_cons_zero, List.getElem?_cons_succ, List.getElem?_nil, ]) ?_; simp [-getElem?_pos, List.getElem?_cons_zero, List.getElem?_cons_succ, List.getElem?_nil, ]) | (refine Exec.call [] hm (by simp [-getElem?_pos, ]) rfl (by simp [-getElem?_pos, List.getElem?_cons_zero, List.getElem?_cons_succ, List.getElem?_nil, ]) ?_; simp [-getElem?_pos, List.getElem?_cons_zero, List.getElem?_cons_succ, List.getElem?_nil, ])
      repeat (first | (with_reducible refine AWp.seqK fun _ => ?_) | (with_reducible refine AWp.blockK fun _ => ?_) | (with_reducible refine KK.go ?_) | (refine AWp.reg tabOk ?_; simp [-getElem?_pos, List.getElem?_cons_zero, List.getElem?_cons_succ, List.getElem?_nil, ]) | (refine AWp.condK fun _ _ => ?_; simp [-getElem?_pos, List.getElem?_cons_zero, List.getElem?_cons_succ, List.getElem?_nil, ]) | (refine AWp.ret ?_; try simp only [thenP]) | (refine AWp.skip ?_; try simp only [thenP]) | (refine AWp.exit ?_; try simp only [thenP]) | (with_reducible refine BB.go ?_; simp only [blockP, thenP, if_true, if_false, reduceIte]) | (refine AWp.draws tabOk (by kernel_rfl) (by kernel_rfl) ?_; simp [-getElem?_pos, List.getElem?_cons_zero, List.getElem?_cons_succ, List.getElem?_nil, ]) | (with_reducible refine And.intro (show okLog _ _ = true from by kernel_rfl) ?_))
      first | (refine Exec0.call [] hmk (by simp [-getElem?_pos, ]) rfl (by simp [-getElem?_pos, List.getElem?_cons_zero, List.getElem?_cons_succ, List.getElem?_nil, ]) ?_; simp [-getElem?_pos, List.getElem?_cons_zero, List.getElem?_cons_succ, List.getElem?_nil, ]) | (refine Exec.call [] hmk (by simp [-getElem?_pos, ]) rfl (by simp [-getElem?_pos, List.getElem?_cons_zero, List.getElem?_cons_succ, List.getElem?_nil, ]) ?_; simp [-getElem?_pos, List.getElem?_cons_zero, List.getElem?_cons_succ, List.getElem?_nil, ])
      repeat (first | (with_reducible refine AWp.seqK fun _ => ?_) | (with_reducible refine AWp.blockK fun _ => ?_) | (with_reducible refine KK.go ?_) | (refine AWp.reg tabOk ?_; simp [-getElem?_pos, List.getElem?_cons_zero, List.getElem?_cons_succ, List.getElem?_nil, h0, h1]) | (refine AWp.condK fun _ _ => ?_; simp [-getElem?_pos, List.getElem?_cons_zero, List.getElem?_cons_succ, List.getElem?_nil, h0, h1]) | (refine AWp.ret ?_; try simp only [thenP]) | (refine AWp.skip ?_; try simp only [thenP]) | (refine AWp.exit ?_; try simp only [thenP]) | (with_reducible refine BB.go ?_; simp only [blockP, thenP, if_true, if_false, reduceIte]) | (refine AWp.draws tabOk (by kernel_rfl) (by kernel_rfl) ?_; simp [-getElem?_pos, List.getElem?_cons_zero, List.getElem?_cons_succ, List.getElem?_nil, h0, h1]) | (with_reducible refine And.intro (show okLog _ _ = true from by kernel_rfl) ?_))
      first | (refine Exec0.call [] hc (by simp [-getElem?_pos, ]) rfl (by simp [-getElem?_pos, List.getElem?_cons_zero, List.getElem?_cons_succ, List.getElem?_nil, ]) ?_; simp [-getElem?_pos, List.getElem?_cons_zero, List.getElem?_cons_succ, List.getElem?_nil, ]) | (refine Exec.call [] hc (by simp [-getElem?_pos, ]) rfl (by simp [-getElem?_pos, List.getElem?_cons_zero, List.getElem?_cons_succ, List.getElem?_nil, ]) ?_; simp [-getElem?_pos, List.getElem?_cons_zero, List.getElem?_cons_succ, List.getElem?_nil, ])
      repeat (first | (with_reducible refine AWp.seqK fun _ => ?_) | (with_reducible refine AWp.blockK fun _ => ?_) | (with_reducible refine KK.go ?_) | (refine AWp.reg tabOk ?_; simp [-getElem?_pos, List.getElem?_cons_zero, List.getElem?_cons_succ, List.getElem?_nil, h0, h1]) | (refine AWp.condK fun _ _ => ?_; simp [-getElem?_pos, List.getElem?_cons_zero, List.getElem?_cons_succ, List.getElem?_nil, h0, h1]) | (refine AWp.ret ?_; try simp only [thenP]) | (refine AWp.skip ?_; try simp only [thenP]) | (refine AWp.exit ?_; try simp only [thenP]) | (with_reducible refine BB.go ?_; simp only [blockP, thenP, if_true, if_false, reduceIte]) | (refine AWp.draws tabOk (by kernel_rfl) (by kernel_rfl) ?_; simp [-getElem?_pos, List.getElem?_cons_zero, List.getElem?_cons_succ, List.getElem?_nil, h0, h1]) | (with_reducible refine And.intro (show okLog _ _ = true from by kernel_rfl) ?_))
      first | (refine Exec0.call [] hs (by simp [-getElem?_pos, ]) rfl (by simp [-getElem?_pos, List.getElem?_cons_zero, List.getElem?_cons_succ, List.getElem?_nil, ]) ?_; simp [-getElem?_pos, List.getElem?_cons_zero, List.getElem?_cons_succ, List.getElem?_nil, ]) | (refine Exec.call [] hs (by simp [-getElem?_pos, ]) rfl (by simp [-getElem?_pos, List.getElem?_cons_zero, List.getElem?_cons_succ, List.getElem?_nil, ]) ?_; simp [-getElem?_pos, List.getElem?_cons_zero, List.getElem?_cons_succ, List.getElem?_nil, ])
      repeat (first | (with_reducible refine AWp.seqK fun _ => ?_) | (with_reducible refine AWp.blockK fun _ => ?_) | (with_reducible refine KK.go ?_) | (refine AWp.reg tabOk ?_; simp [-getElem?_pos, List.getElem?_cons_zero, List.getElem?_cons_succ, List.getElem?_nil, h0, h1]) | (refine AWp.condK fun _ _ => ?_; simp [-getElem?_pos, List.getElem?_cons_zero, List.getElem?_cons_succ, List.getElem?_nil, h0, h1]) | (refine AWp.ret ?_; try simp only [thenP]) | (refine AWp.skip ?_; try simp only [thenP]) | (refine AWp.exit ?_; try simp only [thenP]) | (with_reducible refine BB.go ?_; simp only [blockP, thenP, if_true, if_false, reduceIte]) | (refine AWp.draws tabOk (by kernel_rfl) (by kernel_rfl) ?_; simp [-getElem?_pos, List.getElem?_cons_zero, List.getElem?_cons_succ, List.getElem?_nil, h0, h1]) | (with_reducible refine And.intro (show okLog _ _ = true from by kernel_rfl) ?_))
      (first | refine RR.ret ?_ | refine RR.normal ?_); simp []
  · have he : someErr x lo hi = makErr x lo hi := by rw [someErr, if_pos g]
    rw [he, ansD, if_neg g]
    generalize makErr x lo hi = e at *
    refine acallK Try.func34 rfl rfl (show 2 ≤ _ by decide) rfl fun _ => ?_; simp only [Try.ntmps34]
    repeat (first | (with_reducible refine AWp.seqK fun _ => ?_) | (with_reducible refine AWp.blockK fun _ => ?_) | (with_reducible refine KK.go ?_) | (refine AWp.reg tabOk ?_; simp [-getElem?_pos, List.getElem?_cons_zero, List.getElem?_cons_succ, List.getElem?_nil, g]) | (refine AWp.condK fun _ _ => ?_; simp [-getElem?_pos, List.getElem?_cons_zero, List.getElem?_cons_succ, List.getElem?_nil, g]) | (refine AWp.ret ?_; try simp only [thenP]) | (refine AWp.skip ?_; try simp only [thenP]) | (refine AWp.exit ?_; try simp only [thenP]) | (with_reducible refine BB.go ?_; simp only [blockP, thenP, if_true, if_false, reduceIte]) | (refine AWp.draws tabOk (by kernel_rfl) (by kernel_rfl) ?_; simp [-getElem?_pos, List.getElem?_cons_zero, List.getElem?_cons_succ, List.getElem?_nil, g]) | (with_reducible refine And.intro (show okLog _ _ = true from by kernel_rfl) ?_))
    first | (refine Exec0.call [] hm (by simp [-getElem?_pos, ]) rfl (by simp [-getElem?_pos, List.getElem?_cons_zero, List.getElem?_cons_succ, List.getElem?_nil, ]) ?_; simp [-getElem?_pos, List.getElem?_cons_zero, List.getElem?_cons_succ, List.getElem?_nil, ]) | (refine Exec.call [] hm (by simp [-getElem?_pos, ]) rfl (by simp [-getElem?_pos, List.getElem?_cons_zero, List.getElem?_cons_succ, List.getElem?_nil, ]) ?_; simp [-getElem?_pos, List.getElem?_cons_zero, List.getElem?_cons_succ, List.getElem?_nil, ])
    repeat (first | (with_reducible refine AWp.seqK fun _ => ?_) | (with_reducible refine AWp.blockK fun _ => ?_) | (with_reducible refine KK.go ?_) | (refine AWp.reg tabOk ?_; simp [-getElem?_pos, List.getElem?_cons_zero, List.getElem?_cons_succ, List.getElem?_nil, g]) | (refine AWp.condK fun _ _ => ?_; simp [-getElem?_pos, List.getElem?_cons_zero, List.getElem?_cons_succ, List.getElem?_nil, g]) | (refine AWp.ret ?_; try simp only [thenP]) | (refine AWp.skip ?_; try simp only [thenP]) | (refine AWp.exit ?_; try simp only [thenP]) | (with_reducible refine BB.go ?_; simp only [blockP, thenP, if_true, if_false, reduceIte]) | (refine AWp.draws tabOk (by kernel_rfl) (by kernel_rfl) ?_; simp [-getElem?_pos, List.getElem?_cons_zero, List.getElem?_cons_succ, List.getElem?_nil, g]) | (with_reducible refine And.intro (show okLog _ _ = true from by kernel_rfl) ?_))
    first | (refine Exec0.call [] hm (by simp [-getElem?_pos, ]) rfl (by simp [-getElem?_pos, List.getElem?_cons_zero, List.getElem?_cons_succ, List.getElem?_nil, ]) ?_; simp [-getElem?_pos, List.getElem?_cons_zero, List.getElem?_cons_succ, List.getElem?_nil, ]) | (refine Exec.call [] hm (by simp [-getElem?_pos, ]) rfl (by simp [-getElem?_pos, List.getElem?_cons_zero, List.getElem?_cons_succ, List.getElem?_nil, ]) ?_; simp [-getElem?_pos, List.getElem?_cons_zero, List.getElem?_cons_succ, List.getElem?_nil, ])
    repeat (first | (with_reducible refine AWp.seqK fun _ => ?_) | (with_reducible refine AWp.blockK fun _ => ?_) | (with_reducible refine KK.go ?_) | (refine AWp.reg tabOk ?_; simp [-getElem?_pos, List.getElem?_cons_zero, List.getElem?_cons_succ, List.getElem?_nil, g]) | (refine AWp.condK fun _ _ => ?_; simp [-getElem?_pos, List.getElem?_cons_zero, List.getElem?_cons_succ, List.getElem?_nil, g]) | (refine AWp.ret ?_; try simp only [thenP]) | (refine AWp.skip ?_; try simp only [thenP]) | (refine AWp.exit ?_; try simp only [thenP]) | (with_reducible refine BB.go ?_; simp only [blockP, thenP, if_true, if_false, reduceIte]) | (refine AWp.draws tabOk (by kernel_rfl) (by kernel_rfl) ?_; simp [-getElem?_pos, List.getElem?_cons_zero, List.getElem?_cons_succ, List.getElem?_nil, g]) | (with_reducible refine And.intro (show okLog _ _ = true from by kernel_rfl) ?_))
    (first | refine RR.ret ?_ | refine RR.normal ?_); simp []
end Go.Proofs.Ytigpefjeelgfdaa.Eng

/-
  Layer 1's reference, by the engine: Ways, Count.
-/
namespace Go.Proofs.Ytigpefjeelgfdaa.Eng
open Go.RowKit

theorem mak_works {x : Works} {lo hi : Int} (g : makErr x lo hi = 0) : worksErr x = 0 := by
  unfold makErr at g
  by_cases h : worksErr x = 0
  · exact h
  · rw [if_pos h] at g; exact absurd g h
@[simp] theorem listRows_len (l : List (List Int)) : (listRows l).length = l.length := List.length_map _
@[simp] theorem listRows_get (l : List (List Int)) (i : Nat) : (listRows l)[i]? = (l[i]?).map fun r => [intL r] := List.getElem?_map
@[simp] theorem listRows_nil : listRows [] = [] := rfl
@[simp] theorem listRows_app (l m : List (List Int)) : listRows (l ++ m) = listRows l ++ listRows m := List.map_append
@[simp] theorem listRows_one (r : List Int) : listRows [r] = [[intL r]] := rfl
@[simp] theorem listRows_mem (l : List (List Int)) (p : List Dat → Prop) : (∀ r ∈ listRows l, p r) ↔ ∀ n ∈ l, p [intL n] := by simp [listRows]
def leftRows (x : Works) (lo hi : Int) (k : Nat) : List (List Int) := (List.range k).map fun (i : Nat) => leftN x lo hi i
theorem leftRows_succ (x : Works) (lo hi : Int) (k : Nat) : leftRows x lo hi (k + 1) = leftRows x lo hi k ++ [leftN x lo hi k] := by simp [leftRows, List.range_succ]
theorem leftRows_len (x : Works) (lo hi : Int) (k : Nat) : (leftRows x lo hi k).length = k := by simp [leftRows]
set_option maxRecDepth 100000 in
set_option maxHeartbeats 4000000 in
theorem refCount_c (x : Works) (lo hi : Int) (hp : worksErr x = 0 → prodTo x x.steps.length ≤ 400) : ACall Try.prog 38 [worksD x, rgD lo hi] (.tup [iD (if makErr x lo hi = 0 then (totN x lo hi : Int) else 0), iD (makErr x lo hi)]) := by
  have hm := measured_c x lo hi
  rw [mea_mak] at hm
  by_cases g : makErr x lo hi = 0
  · have hx := mak_works g
    have hmk := makers_c hx (hp hx) lo hi
    have hlen := mkN_len x lo hi
    rw [g] at hm ⊢
    rw [if_pos rfl, ← hlen]
    refine acallK Try.func38 rfl rfl (show 2 ≤ _ by decide) rfl fun _ => ?_; simp only [Try.ntmps38]
    repeat (first | (with_reducible refine AWp.seqK fun _ => ?_) | (with_reducible refine AWp.blockK fun _ => ?_) | (with_reducible refine KK.go ?_) | (refine AWp.reg tabOk ?_; simp [-getElem?_pos, List.getElem?_cons_zero, List.getElem?_cons_succ, List.getElem?_nil, ]) | (refine AWp.condK fun _ _ => ?_; simp [-getElem?_pos, List.getElem?_cons_zero, List.getElem?_cons_succ, List.getElem?_nil, ]) | (refine AWp.ret ?_; try simp only [thenP]) | (refine AWp.skip ?_; try simp only [thenP]) | (refine AWp.exit ?_; try simp only [thenP]) | (with_reducible refine BB.go ?_; simp only [blockP, thenP, if_true, if_false, reduceIte]) | (refine AWp.draws tabOk (by kernel_rfl) (by kernel_rfl) ?_; simp [-getElem?_pos, List.getElem?_cons_zero, List.getElem?_cons_succ, List.getElem?_nil, ]) | (with_reducible refine And.intro (show okLog _ _ = true from by kernel_rfl) ?_))
    first | (refine Exec0.call [] hm (by simp [-getElem?_pos, ]) rfl (by simp [-getElem?_pos, List.getElem?_cons_zero, List.getElem?_cons_succ, List.getElem?_nil, ]) ?_; simp [-getElem?_pos, List.getElem?_cons_zero, List.getElem?_cons_succ, List.getElem?_nil, ]) | (refine Exec.call [] hm (by simp [-getElem?_pos, ]) rfl (by simp [-getElem?_pos, List.getElem?_cons_zero, List.getElem?_cons_succ, List.getElem?_nil, ]) ?_; simp [-getElem?_pos, List.getElem?_cons_zero, List.getElem?_cons_succ, List.getElem?_nil, ])
    repeat (first | (with_reducible refine AWp.seqK fun _ => ?_) | (with_reducible refine AWp.blockK fun _ => ?_) | (with_reducible refine KK.go ?_) | (refine AWp.reg tabOk ?_; simp [-getElem?_pos, List.getElem?_cons_zero, List.getElem?_cons_succ, List.getElem?_nil, ]) | (refine AWp.condK fun _ _ => ?_; simp [-getElem?_pos, List.getElem?_cons_zero, List.getElem?_cons_succ, List.getElem?_nil, ]) | (refine AWp.ret ?_; try simp only [thenP]) | (refine AWp.skip ?_; try simp only [thenP]) | (refine AWp.exit ?_; try simp only [thenP]) | (with_reducible refine BB.go ?_; simp only [blockP, thenP, if_true, if_false, reduceIte]) | (refine AWp.draws tabOk (by kernel_rfl) (by kernel_rfl) ?_; simp [-getElem?_pos, List.getElem?_cons_zero, List.getElem?_cons_succ, List.getElem?_nil, ]) | (with_reducible refine And.intro (show okLog _ _ = true from by kernel_rfl) ?_))
    first | (refine Exec0.call [] hmk (by simp [-getElem?_pos, ]) rfl (by simp [-getElem?_pos, List.getElem?_cons_zero, List.getElem?_cons_succ, List.getElem?_nil, ]) ?_; simp [-getElem?_pos, List.getElem?_cons_zero, List.getElem?_cons_succ, List.getElem?_nil, ]) | (refine Exec.call [] hmk (by simp [-getElem?_pos, ]) rfl (by simp [-getElem?_pos, List.getElem?_cons_zero, List.getElem?_cons_succ, List.getElem?_nil, ]) ?_; simp [-getElem?_pos, List.getElem?_cons_zero, List.getElem?_cons_succ, List.getElem?_nil, ])
    repeat (first | (with_reducible refine AWp.seqK fun _ => ?_) | (with_reducible refine AWp.blockK fun _ => ?_) | (with_reducible refine KK.go ?_) | (refine AWp.reg tabOk ?_; simp [-getElem?_pos, List.getElem?_cons_zero, List.getElem?_cons_succ, List.getElem?_nil, ]) | (refine AWp.condK fun _ _ => ?_; simp [-getElem?_pos, List.getElem?_cons_zero, List.getElem?_cons_succ, List.getElem?_nil, ]) | (refine AWp.ret ?_; try simp only [thenP]) | (refine AWp.skip ?_; try simp only [thenP]) | (refine AWp.exit ?_; try simp only [thenP]) | (with_reducible refine BB.go ?_; simp only [blockP, thenP, if_true, if_false, reduceIte]) | (refine AWp.draws tabOk (by kernel_rfl) (by kernel_rfl) ?_; simp [-getElem?_pos, List.getElem?_cons_zero, List.getElem?_cons_succ, List.getElem?_nil, ]) | (with_reducible refine And.intro (show okLog _ _ = true from by kernel_rfl) ?_))
    (first | refine RR.ret ?_ | refine RR.normal ?_); simp []
  · rw [if_neg g]
    generalize makErr x lo hi = e at *
    refine acallK Try.func38 rfl rfl (show 2 ≤ _ by decide) rfl fun _ => ?_; simp only [Try.ntmps38]
    repeat (first | (with_reducible refine AWp.seqK fun _ => ?_) | (with_reducible refine AWp.blockK fun _ => ?_) | (with_reducible refine KK.go ?_) | (refine AWp.reg tabOk ?_; simp [-getElem?_pos, List.getElem?_cons_zero, List.getElem?_cons_succ, List.getElem?_nil, g]) | (refine AWp.condK fun _ _ => ?_; simp [-getElem?_pos, List.getElem?_cons_zero, List.getElem?_cons_succ, List.getElem?_nil, g]) | (refine AWp.ret ?_; try simp only [thenP]) | (refine AWp.skip ?_; try simp only [thenP]) | (refine AWp.exit ?_; try simp only [thenP]) | (with_reducible refine BB.go ?_; simp only [blockP, thenP, if_true, if_false, reduceIte]) | (refine AWp.draws tabOk (by kernel_rfl) (by kernel_rfl) ?_; simp [-getElem?_pos, List.getElem?_cons_zero, List.getElem?_cons_succ, List.getElem?_nil, g]) | (with_reducible refine And.intro (show okLog _ _ = true from by kernel_rfl) ?_))
    first | (refine Exec0.call [] hm (by simp [-getElem?_pos, ]) rfl (by simp [-getElem?_pos, List.getElem?_cons_zero, List.getElem?_cons_succ, List.getElem?_nil, ]) ?_; simp [-getElem?_pos, List.getElem?_cons_zero, List.getElem?_cons_succ, List.getElem?_nil, ]) | (refine Exec.call [] hm (by simp [-getElem?_pos, ]) rfl (by simp [-getElem?_pos, List.getElem?_cons_zero, List.getElem?_cons_succ, List.getElem?_nil, ]) ?_; simp [-getElem?_pos, List.getElem?_cons_zero, List.getElem?_cons_succ, List.getElem?_nil, ])
    repeat (first | (with_reducible refine AWp.seqK fun _ => ?_) | (with_reducible refine AWp.blockK fun _ => ?_) | (with_reducible refine KK.go ?_) | (refine AWp.reg tabOk ?_; simp [-getElem?_pos, List.getElem?_cons_zero, List.getElem?_cons_succ, List.getElem?_nil, g]) | (refine AWp.condK fun _ _ => ?_; simp [-getElem?_pos, List.getElem?_cons_zero, List.getElem?_cons_succ, List.getElem?_nil, g]) | (refine AWp.ret ?_; try simp only [thenP]) | (refine AWp.skip ?_; try simp only [thenP]) | (refine AWp.exit ?_; try simp only [thenP]) | (with_reducible refine BB.go ?_; simp only [blockP, thenP, if_true, if_false, reduceIte]) | (refine AWp.draws tabOk (by kernel_rfl) (by kernel_rfl) ?_; simp [-getElem?_pos, List.getElem?_cons_zero, List.getElem?_cons_succ, List.getElem?_nil, g]) | (with_reducible refine And.intro (show okLog _ _ = true from by kernel_rfl) ?_))
    first | (refine Exec0.call [] hm (by simp [-getElem?_pos, ]) rfl (by simp [-getElem?_pos, List.getElem?_cons_zero, List.getElem?_cons_succ, List.getElem?_nil, ]) ?_; simp [-getElem?_pos, List.getElem?_cons_zero, List.getElem?_cons_succ, List.getElem?_nil, ]) | (refine Exec.call [] hm (by simp [-getElem?_pos, ]) rfl (by simp [-getElem?_pos, List.getElem?_cons_zero, List.getElem?_cons_succ, List.getElem?_nil, ]) ?_; simp [-getElem?_pos, List.getElem?_cons_zero, List.getElem?_cons_succ, List.getElem?_nil, ])
    repeat (first | (with_reducible refine AWp.seqK fun _ => ?_) | (with_reducible refine AWp.blockK fun _ => ?_) | (with_reducible refine KK.go ?_) | (refine AWp.reg tabOk ?_; simp [-getElem?_pos, List.getElem?_cons_zero, List.getElem?_cons_succ, List.getElem?_nil, g]) | (refine AWp.condK fun _ _ => ?_; simp [-getElem?_pos, List.getElem?_cons_zero, List.getElem?_cons_succ, List.getElem?_nil, g]) | (refine AWp.ret ?_; try simp only [thenP]) | (refine AWp.skip ?_; try simp only [thenP]) | (refine AWp.exit ?_; try simp only [thenP]) | (with_reducible refine BB.go ?_; simp only [blockP, thenP, if_true, if_false, reduceIte]) | (refine AWp.draws tabOk (by kernel_rfl) (by kernel_rfl) ?_; simp [-getElem?_pos, List.getElem?_cons_zero, List.getElem?_cons_succ, List.getElem?_nil, g]) | (with_reducible refine And.intro (show okLog _ _ = true from by kernel_rfl) ?_))
    (first | refine RR.ret ?_ | refine RR.normal ?_); simp []
set_option maxRecDepth 100000 in
set_option maxHeartbeats 4000000 in
theorem refWays_c (x : Works) (lo hi : Int) (hp : worksErr x = 0 → prodTo x x.steps.length ≤ 400) : ACall Try.prog 36 [worksD x, rgD lo hi] (ansD (someErr x lo hi) (listRows (leftRows x lo hi x.steps.length))) := by
  have hm := measured_c x lo hi
  rw [mea_mak] at hm
  by_cases g : makErr x lo hi = 0
  · have hx := mak_works g
    have hmk := makers_c hx (hp hx) lo hi
    have hlen := mkN_len x lo hi
    rw [g] at hm
    by_cases g2 : totN x lo hi = 0
    · have he : someErr x lo hi = 17 := by rw [someErr, if_neg (by simpa using g), if_pos g2]
      rw [he, ansD]
      obtain hnil : mkN x lo hi = [] := List.length_eq_zero_iff.1 (by omega)
      rw [hnil] at hmk
      refine acallK Try.func36 rfl rfl (show 2 ≤ _ by decide) rfl fun _ => ?_; simp only [Try.ntmps36]
      repeat (first | (with_reducible refine AWp.seqK fun _ => ?_) | (with_reducible refine AWp.blockK fun _ => ?_) | (with_reducible refine KK.go ?_) | (refine AWp.reg tabOk ?_; simp [-getElem?_pos, List.getElem?_cons_zero, List.getElem?_cons_succ, List.getElem?_nil, ]) | (refine AWp.condK fun _ _ => ?_; simp [-getElem?_pos, List.getElem?_cons_zero, List.getElem?_cons_succ, List.getElem?_nil, ]) | (refine AWp.ret ?_; try simp only [thenP]) | (refine AWp.skip ?_; try simp only [thenP]) | (refine AWp.exit ?_; try simp only [thenP]) | (with_reducible refine BB.go ?_; simp only [blockP, thenP, if_true, if_false, reduceIte]) | (refine AWp.draws tabOk (by kernel_rfl) (by kernel_rfl) ?_; simp [-getElem?_pos, List.getElem?_cons_zero, List.getElem?_cons_succ, List.getElem?_nil, ]) | (with_reducible refine And.intro (show okLog _ _ = true from by kernel_rfl) ?_))
      first | (refine Exec0.call [] hm (by simp [-getElem?_pos, ]) rfl (by simp [-getElem?_pos, List.getElem?_cons_zero, List.getElem?_cons_succ, List.getElem?_nil, ]) ?_; simp [-getElem?_pos, List.getElem?_cons_zero, List.getElem?_cons_succ, List.getElem?_nil, ]) | (refine Exec.call [] hm (by simp [-getElem?_pos, ]) rfl (by simp [-getElem?_pos, List.getElem?_cons_zero, List.getElem?_cons_succ, List.getElem?_nil, ]) ?_; simp [-getElem?_pos, List.getElem?_cons_zero, List.getElem?_cons_succ, List.getElem?_nil, ])
      repeat (first | (with_reducible refine AWp.seqK fun _ => ?_) | (with_reducible refine AWp.blockK fun _ => ?_) | (with_reducible refine KK.go ?_) | (refine AWp.reg tabOk ?_; simp [-getElem?_pos, List.getElem?_cons_zero, List.getElem?_cons_succ, List.getElem?_nil, ]) | (refine AWp.condK fun _ _ => ?_; simp [-getElem?_pos, List.getElem?_cons_zero, List.getElem?_cons_succ, List.getElem?_nil, ]) | (refine AWp.ret ?_; try simp only [thenP]) | (refine AWp.skip ?_; try simp only [thenP]) | (refine AWp.exit ?_; try simp only [thenP]) | (with_reducible refine BB.go ?_; simp only [blockP, thenP, if_true, if_false, reduceIte]) | (refine AWp.draws tabOk (by kernel_rfl) (by kernel_rfl) ?_; simp [-getElem?_pos, List.getElem?_cons_zero, List.getElem?_cons_succ, List.getElem?_nil, ]) | (with_reducible refine And.intro (show okLog _ _ = true from by kernel_rfl) ?_))
      first | (refine Exec0.call [] hmk (by simp [-getElem?_pos, ]) rfl (by simp [-getElem?_pos, List.getElem?_cons_zero, List.getElem?_cons_succ, List.getElem?_nil, ]) ?_; simp [-getElem?_pos, List.getElem?_cons_zero, List.getElem?_cons_succ, List.getElem?_nil, ]) | (refine Exec.call [] hmk (by simp [-getElem?_pos, ]) rfl (by simp [-getElem?_pos, List.getElem?_cons_zero, List.getElem?_cons_succ, List.getElem?_nil, ]) ?_; simp [-getElem?_pos, List.getElem?_cons_zero, List.getElem?_cons_succ, List.getElem?_nil, ])
      repeat (first | (with_reducible refine AWp.seqK fun _ => ?_) | (with_reducible refine AWp.blockK fun _ => ?_) | (with_reducible refine KK.go ?_) | (refine AWp.reg tabOk ?_; simp [-getElem?_pos, List.getElem?_cons_zero, List.getElem?_cons_succ, List.getElem?_nil, ]) | (refine AWp.condK fun _ _ => ?_; simp [-getElem?_pos, List.getElem?_cons_zero, List.getElem?_cons_succ, List.getElem?_nil, ]) | (refine AWp.ret ?_; try simp only [thenP]) | (refine AWp.skip ?_; try simp only [thenP]) | (refine AWp.exit ?_; try simp only [thenP]) | (with_reducible refine BB.go ?_; simp only [blockP, thenP, if_true, if_false, reduceIte]) | (refine AWp.draws tabOk (by kernel_rfl) (by kernel_rfl) ?_; simp [-getElem?_pos, List.getElem?_cons_zero, List.getElem?_cons_succ, List.getElem?_nil, ]) | (with_reducible refine And.intro (show okLog _ _ = true from by kernel_rfl) ?_))
      (first | refine RR.ret ?_ | refine RR.normal ?_); simp []
    · have he : someErr x lo hi = 0 := by rw [someErr, if_neg (by simpa using g), if_neg g2]
      have hst := (bars_few hx).2.2
      have h0 : ¬ (mkN x lo hi).length = 0 := by omega
      have h1 : ¬ mkN x lo hi = [] := fun h => h0 (by rw [h]; rfl)
      rw [he, ansD, if_pos rfl]
      refine acallK Try.func36 rfl rfl (show 2 ≤ _ by decide) rfl fun _ => ?_; simp only [Try.ntmps36]
      repeat (first | (with_reducible refine AWp.seqK fun _ => ?_) | (with_reducible refine AWp.blockK fun _ => ?_) | (with_reducible refine KK.go ?_) | (refine AWp.reg tabOk ?_; simp [-getElem?_pos, List.getElem?_cons_zero, List.getElem?_cons_succ, List.getElem?_nil, ]) | (refine AWp.condK fun _ _ => ?_; simp [-getElem?_pos, List.getElem?_cons_zero, List.getElem?_cons_succ, List.getElem?_nil, ]) | (refine AWp.ret ?_; try simp only [thenP]) | (refine AWp.skip ?_; try simp only [thenP]) | (refine AWp.exit ?_; try simp only [thenP]) | (with_reducible refine BB.go ?_; simp only [blockP, thenP, if_true, if_false, reduceIte]) | (refine AWp.draws tabOk (by kernel_rfl) (by kernel_rfl) ?_; simp [-getElem?_pos, List.getElem?_cons_zero, List.getElem?_cons_succ, List.getElem?_nil, ]) | (with_reducible refine And.intro (show okLog _ _ = true from by kernel_rfl) ?_))
      first | (refine Exec0.call [] hm (by simp [-getElem?_pos, ]) rfl (by simp [-getElem?_pos, List.getElem?_cons_zero, List.getElem?_cons_succ, List.getElem?_nil, ]) ?_; simp [-getElem?_pos, List.getElem?_cons_zero, List.getElem?_cons_succ, List.getElem?_nil, ]) | (refine Exec.call [] hm (by simp [-getElem?_pos, ]) rfl (by simp [-getElem?_pos, List.getElem?_cons_zero, List.getElem?_cons_succ, List.getElem?_nil, ]) ?_; simp [-getElem?_pos, List.getElem?_cons_zero, List.getElem?_cons_succ, List.getElem?_nil, ])
      repeat (first | (with_reducible refine AWp.seqK fun _ => ?_) | (with_reducible refine AWp.blockK fun _ => ?_) | (with_reducible refine KK.go ?_) | (refine AWp.reg tabOk ?_; simp [-getElem?_pos, List.getElem?_cons_zero, List.getElem?_cons_succ, List.getElem?_nil, ]) | (refine AWp.condK fun _ _ => ?_; simp [-getElem?_pos, List.getElem?_cons_zero, List.getElem?_cons_succ, List.getElem?_nil, ]) | (refine AWp.ret ?_; try simp only [thenP]) | (refine AWp.skip ?_; try simp only [thenP]) | (refine AWp.exit ?_; try simp only [thenP]) | (with_reducible refine BB.go ?_; simp only [blockP, thenP, if_true, if_false, reduceIte]) | (refine AWp.draws tabOk (by kernel_rfl) (by kernel_rfl) ?_; simp [-getElem?_pos, List.getElem?_cons_zero, List.getElem?_cons_succ, List.getElem?_nil, ]) | (with_reducible refine And.intro (show okLog _ _ = true from by kernel_rfl) ?_))
      first | (refine Exec0.call [] hmk (by simp [-getElem?_pos, ]) rfl (by simp [-getElem?_pos, List.getElem?_cons_zero, List.getElem?_cons_succ, List.getElem?_nil, ]) ?_; simp [-getElem?_pos, List.getElem?_cons_zero, List.getElem?_cons_succ, List.getElem?_nil, ]) | (refine Exec.call [] hmk (by simp [-getElem?_pos, ]) rfl (by simp [-getElem?_pos, List.getElem?_cons_zero, List.getElem?_cons_succ, List.getElem?_nil, ]) ?_; simp [-getElem?_pos, List.getElem?_cons_zero, List.getElem?_cons_succ, List.getElem?_nil, ])
      repeat (first | (with_reducible refine AWp.seqK fun _ => ?_) | (with_reducible refine AWp.blockK fun _ => ?_) | (with_reducible refine KK.go ?_) | (refine AWp.reg tabOk ?_; simp [-getElem?_pos, List.getElem?_cons_zero, List.getElem?_cons_succ, List.getElem?_nil, h0, h1]) | (refine AWp.condK fun _ _ => ?_; simp [-getElem?_pos, List.getElem?_cons_zero, List.getElem?_cons_succ, List.getElem?_nil, h0, h1]) | (refine AWp.ret ?_; try simp only [thenP]) | (refine AWp.skip ?_; try simp only [thenP]) | (refine AWp.exit ?_; try simp only [thenP]) | (with_reducible refine BB.go ?_; simp only [blockP, thenP, if_true, if_false, reduceIte]) | (refine AWp.draws tabOk (by kernel_rfl) (by kernel_rfl) ?_; simp [-getElem?_pos, List.getElem?_cons_zero, List.getElem?_cons_succ, List.getElem?_nil, h0, h1]) | (with_reducible refine And.intro (show okLog _ _ = true from by kernel_rfl) ?_))
      refine AWp.loopK (ι := { k : Nat // k ≤ x.steps.length }) (n := 2) (fun k => [(2, .ptr 0 0 0), (6, .d (recsD (mkN x lo hi))), (7, gS 1 1 (listRows (leftRows x lo hi k.1))), (8, .d (iD k.1))]) (fun k => (0, .box 25 [.d (.list (rgRows x.bars)), .d (.list (stepRows x.steps))] false) :: gM 1 40 1 (listRows (leftRows x lo hi k.1))) (fun k => x.steps.length - k.1) ⟨0, Nat.zero_le _⟩ [0, 1] ?_ ?_
      · refine ⟨by rfl, by simp [leftRows], by simp [or_imp, forall_and, leftRows] <;> (try (intro _hne; simp [_hne])), by decide⟩
      rintro ⟨k, hk⟩ kk
      have w1 : IntKind.i64.wrap ((k : Int) + 1) = (k : Int) + 1 := wrap64_in (by omega)
      have hll := leftRows_len x lo hi k
      by_cases hlt : k < x.steps.length
      · have hc := counts_c hx (hp hx) lo hi (t := k) (by omega) (by omega)
        have hs := someCounts_c hx lo hi (t := k) (by omega) (by omega)
        have hn := leftRows_succ x lo hi k
        have b1 : fitsB ((leftRows x lo hi k).length + 1) 24 = true := fitsB_small (by omega) (by omega)
        by_cases hz : listRows (leftRows x lo hi k) = []
        · have hz2 : leftRows x lo hi k = [] := by simpa [listRows] using hz
          repeat (first | (with_reducible refine AWp.seqK fun _ => ?_) | (with_reducible refine AWp.blockK fun _ => ?_) | (with_reducible refine KK.go ?_) | (refine AWp.reg tabOk ?_; simp [-getElem?_pos, List.getElem?_cons_zero, List.getElem?_cons_succ, List.getElem?_nil, hlt, hz, w1]) | (refine AWp.condK fun _ _ => ?_; simp [-getElem?_pos, List.getElem?_cons_zero, List.getElem?_cons_succ, List.getElem?_nil, hlt, hz, w1]) | (refine AWp.ret ?_; try simp only [thenP]) | (refine AWp.skip ?_; try simp only [thenP]) | (refine AWp.exit ?_; try simp only [thenP]) | (with_reducible refine BB.go ?_; simp only [blockP, thenP, if_true, if_false, reduceIte]) | (refine AWp.draws tabOk (by kernel_rfl) (by kernel_rfl) ?_; simp [-getElem?_pos, List.getElem?_cons_zero, List.getElem?_cons_succ, List.getElem?_nil, hlt, hz, w1]) | (with_reducible refine And.intro (show okLog _ _ = true from by kernel_rfl) ?_))
          first | (refine Exec0.call [] hc (by simp [-getElem?_pos, hz]) rfl (by simp [-getElem?_pos, List.getElem?_cons_zero, List.getElem?_cons_succ, List.getElem?_nil, hz]) ?_; simp [-getElem?_pos, List.getElem?_cons_zero, List.getElem?_cons_succ, List.getElem?_nil, hz]) | (refine Exec.call [] hc (by simp [-getElem?_pos, hz]) rfl (by simp [-getElem?_pos, List.getElem?_cons_zero, List.getElem?_cons_succ, List.getElem?_nil, hz]) ?_; simp [-getElem?_pos, List.getElem?_cons_zero, List.getElem?_cons_succ, List.getElem?_nil, hz])
          repeat (first | (with_reducible refine AWp.seqK fun _ => ?_) | (with_reducible refine AWp.blockK fun _ => ?_) | (with_reducible refine KK.go ?_) | (refine AWp.reg tabOk ?_; simp [-getElem?_pos, List.getElem?_cons_zero, List.getElem?_cons_succ, List.getElem?_nil, hlt, hz, w1]) | (refine AWp.condK fun _ _ => ?_; simp [-getElem?_pos, List.getElem?_cons_zero, List.getElem?_cons_succ, List.getElem?_nil, hlt, hz, w1]) | (refine AWp.ret ?_; try simp only [thenP]) | (refine AWp.skip ?_; try simp only [thenP]) | (refine AWp.exit ?_; try simp only [thenP]) | (with_reducible refine BB.go ?_; simp only [blockP, thenP, if_true, if_false, reduceIte]) | (refine AWp.draws tabOk (by kernel_rfl) (by kernel_rfl) ?_; simp [-getElem?_pos, List.getElem?_cons_zero, List.getElem?_cons_succ, List.getElem?_nil, hlt, hz, w1]) | (with_reducible refine And.intro (show okLog _ _ = true from by kernel_rfl) ?_))
          first | (refine Exec0.call [] hs (by simp [-getElem?_pos, hz]) rfl (by simp [-getElem?_pos, List.getElem?_cons_zero, List.getElem?_cons_succ, List.getElem?_nil, hz]) ?_; simp [-getElem?_pos, List.getElem?_cons_zero, List.getElem?_cons_succ, List.getElem?_nil, hz]) | (refine Exec.call [] hs (by simp [-getElem?_pos, hz]) rfl (by simp [-getElem?_pos, List.getElem?_cons_zero, List.getElem?_cons_succ, List.getElem?_nil, hz]) ?_; simp [-getElem?_pos, List.getElem?_cons_zero, List.getElem?_cons_succ, List.getElem?_nil, hz])
          repeat (first | (with_reducible refine AWp.seqK fun _ => ?_) | (with_reducible refine AWp.blockK fun _ => ?_) | (with_reducible refine KK.go ?_) | (refine AWp.reg tabOk ?_; simp [-getElem?_pos, List.getElem?_cons_zero, List.getElem?_cons_succ, List.getElem?_nil, hlt, hz, w1]) | (refine AWp.condK fun _ _ => ?_; simp [-getElem?_pos, List.getElem?_cons_zero, List.getElem?_cons_succ, List.getElem?_nil, hlt, hz, w1]) | (refine AWp.ret ?_; try simp only [thenP]) | (refine AWp.skip ?_; try simp only [thenP]) | (refine AWp.exit ?_; try simp only [thenP]) | (with_reducible refine BB.go ?_; simp only [blockP, thenP, if_true, if_false, reduceIte]) | (refine AWp.draws tabOk (by kernel_rfl) (by kernel_rfl) ?_; simp [-getElem?_pos, List.getElem?_cons_zero, List.getElem?_cons_succ, List.getElem?_nil, hlt, hz, w1]) | (with_reducible refine And.intro (show okLog _ _ = true from by kernel_rfl) ?_))
          refine LL.go ⟨k + 1, hlt⟩ [0, 14] ⟨by rfl, by simp [hn, hz, hz2], by simp [or_imp, forall_and, hn, hz, hz2] <;> (try (intro _hne; simp [_hne])), by decide⟩ ?_
          simp; omega
        · repeat (first | (with_reducible refine AWp.seqK fun _ => ?_) | (with_reducible refine AWp.blockK fun _ => ?_) | (with_reducible refine KK.go ?_) | (refine AWp.reg tabOk ?_; simp [-getElem?_pos, List.getElem?_cons_zero, List.getElem?_cons_succ, List.getElem?_nil, hlt, gS_ne hz, hz, w1]) | (refine AWp.condK fun _ _ => ?_; simp [-getElem?_pos, List.getElem?_cons_zero, List.getElem?_cons_succ, List.getElem?_nil, hlt, gS_ne hz, hz, w1]) | (refine AWp.ret ?_; try simp only [thenP]) | (refine AWp.skip ?_; try simp only [thenP]) | (refine AWp.exit ?_; try simp only [thenP]) | (with_reducible refine BB.go ?_; simp only [blockP, thenP, if_true, if_false, reduceIte]) | (refine AWp.draws tabOk (by kernel_rfl) (by kernel_rfl) ?_; simp [-getElem?_pos, List.getElem?_cons_zero, List.getElem?_cons_succ, List.getElem?_nil, hlt, gS_ne hz, hz, w1]) | (with_reducible refine And.intro (show okLog _ _ = true from by kernel_rfl) ?_))
          first | (refine Exec0.call [] hc (by simp [-getElem?_pos, hz]) rfl (by simp [-getElem?_pos, List.getElem?_cons_zero, List.getElem?_cons_succ, List.getElem?_nil, hz]) ?_; simp [-getElem?_pos, List.getElem?_cons_zero, List.getElem?_cons_succ, List.getElem?_nil, hz]) | (refine Exec.call [] hc (by simp [-getElem?_pos, hz]) rfl (by simp [-getElem?_pos, List.getElem?_cons_zero, List.getElem?_cons_succ, List.getElem?_nil, hz]) ?_; simp [-getElem?_pos, List.getElem?_cons_zero, List.getElem?_cons_succ, List.getElem?_nil, hz])
          repeat (first | (with_reducible refine AWp.seqK fun _ => ?_) | (with_reducible refine AWp.blockK fun _ => ?_) | (with_reducible refine KK.go ?_) | (refine AWp.reg tabOk ?_; simp [-getElem?_pos, List.getElem?_cons_zero, List.getElem?_cons_succ, List.getElem?_nil, hlt, gS_ne hz, hz, w1]) | (refine AWp.condK fun _ _ => ?_; simp [-getElem?_pos, List.getElem?_cons_zero, List.getElem?_cons_succ, List.getElem?_nil, hlt, gS_ne hz, hz, w1]) | (refine AWp.ret ?_; try simp only [thenP]) | (refine AWp.skip ?_; try simp only [thenP]) | (refine AWp.exit ?_; try simp only [thenP]) | (with_reducible refine BB.go ?_; simp only [blockP, thenP, if_true, if_false, reduceIte]) | (refine AWp.draws tabOk (by kernel_rfl) (by kernel_rfl) ?_; simp [-getElem?_pos, List.getElem?_cons_zero, List.getElem?_cons_succ, List.getElem?_nil, hlt, gS_ne hz, hz, w1]) | (with_reducible refine And.intro (show okLog _ _ = true from by kernel_rfl) ?_))
          first | (refine Exec0.call [] hs (by simp [-getElem?_pos, hz, b1]) rfl (by simp [-getElem?_pos, List.getElem?_cons_zero, List.getElem?_cons_succ, List.getElem?_nil, hz, b1]) ?_; simp [-getElem?_pos, List.getElem?_cons_zero, List.getElem?_cons_succ, List.getElem?_nil, hz, b1]) | (refine Exec.call [] hs (by simp [-getElem?_pos, hz, b1]) rfl (by simp [-getElem?_pos, List.getElem?_cons_zero, List.getElem?_cons_succ, List.getElem?_nil, hz, b1]) ?_; simp [-getElem?_pos, List.getElem?_cons_zero, List.getElem?_cons_succ, List.getElem?_nil, hz, b1])
          repeat (first | (with_reducible refine AWp.seqK fun _ => ?_) | (with_reducible refine AWp.blockK fun _ => ?_) | (with_reducible refine KK.go ?_) | (refine AWp.reg tabOk ?_; simp [-getElem?_pos, List.getElem?_cons_zero, List.getElem?_cons_succ, List.getElem?_nil, hlt, gS_ne hz, hz, w1, b1]) | (refine AWp.condK fun _ _ => ?_; simp [-getElem?_pos, List.getElem?_cons_zero, List.getElem?_cons_succ, List.getElem?_nil, hlt, gS_ne hz, hz, w1, b1]) | (refine AWp.ret ?_; try simp only [thenP]) | (refine AWp.skip ?_; try simp only [thenP]) | (refine AWp.exit ?_; try simp only [thenP]) | (with_reducible refine BB.go ?_; simp only [blockP, thenP, if_true, if_false, reduceIte]) | (refine AWp.draws tabOk (by kernel_rfl) (by kernel_rfl) ?_; simp [-getElem?_pos, List.getElem?_cons_zero, List.getElem?_cons_succ, List.getElem?_nil, hlt, gS_ne hz, hz, w1, b1]) | (with_reducible refine And.intro (show okLog _ _ = true from by kernel_rfl) ?_))
          refine LL.go ⟨k + 1, hlt⟩ [0, 14] ⟨by rfl, by simp [hn, hz], by simp [or_imp, forall_and, hn, hz] <;> (try (intro _hne; simp [_hne])), by decide⟩ ?_
          simp; omega
      · obtain rfl : k = x.steps.length := by omega
        by_cases hz : listRows (leftRows x lo hi x.steps.length) = []
        · repeat (first | (with_reducible refine AWp.seqK fun _ => ?_) | (with_reducible refine AWp.blockK fun _ => ?_) | (with_reducible refine KK.go ?_) | (refine AWp.reg tabOk ?_; simp [-getElem?_pos, List.getElem?_cons_zero, List.getElem?_cons_succ, List.getElem?_nil, hlt, hz]) | (refine AWp.condK fun _ _ => ?_; simp [-getElem?_pos, List.getElem?_cons_zero, List.getElem?_cons_succ, List.getElem?_nil, hlt, hz]) | (refine AWp.ret ?_; try simp only [thenP]) | (refine AWp.skip ?_; try simp only [thenP]) | (refine AWp.exit ?_; try simp only [thenP]) | (with_reducible refine BB.go ?_; simp only [blockP, thenP, if_true, if_false, reduceIte]) | (refine AWp.draws tabOk (by kernel_rfl) (by kernel_rfl) ?_; simp [-getElem?_pos, List.getElem?_cons_zero, List.getElem?_cons_succ, List.getElem?_nil, hlt, hz]) | (with_reducible refine And.intro (show okLog _ _ = true from by kernel_rfl) ?_))
          (first | refine RR.ret ?_ | refine RR.normal ?_); simp [hz]
        · repeat (first | (with_reducible refine AWp.seqK fun _ => ?_) | (with_reducible refine AWp.blockK fun _ => ?_) | (with_reducible refine KK.go ?_) | (refine AWp.reg tabOk ?_; simp [-getElem?_pos, List.getElem?_cons_zero, List.getElem?_cons_succ, List.getElem?_nil, hlt, gS_ne hz, hz]) | (refine AWp.condK fun _ _ => ?_; simp [-getElem?_pos, List.getElem?_cons_zero, List.getElem?_cons_succ, List.getElem?_nil, hlt, gS_ne hz, hz]) | (refine AWp.ret ?_; try simp only [thenP]) | (refine AWp.skip ?_; try simp only [thenP]) | (refine AWp.exit ?_; try simp only [thenP]) | (with_reducible refine BB.go ?_; simp only [blockP, thenP, if_true, if_false, reduceIte]) | (refine AWp.draws tabOk (by kernel_rfl) (by kernel_rfl) ?_; simp [-getElem?_pos, List.getElem?_cons_zero, List.getElem?_cons_succ, List.getElem?_nil, hlt, gS_ne hz, hz]) | (with_reducible refine And.intro (show okLog _ _ = true from by kernel_rfl) ?_))
          (first | refine RR.ret ?_ | refine RR.normal ?_); simp [hz, gS_ne hz]
  · have he : someErr x lo hi = makErr x lo hi := by rw [someErr, if_pos g]
    rw [he, ansD, if_neg g]
    generalize makErr x lo hi = e at *
    refine acallK Try.func36 rfl rfl (show 2 ≤ _ by decide) rfl fun _ => ?_; simp only [Try.ntmps36]
    repeat (first | (with_reducible refine AWp.seqK fun _ => ?_) | (with_reducible refine AWp.blockK fun _ => ?_) | (with_reducible refine KK.go ?_) | (refine AWp.reg tabOk ?_; simp [-getElem?_pos, List.getElem?_cons_zero, List.getElem?_cons_succ, List.getElem?_nil, g]) | (refine AWp.condK fun _ _ => ?_; simp [-getElem?_pos, List.getElem?_cons_zero, List.getElem?_cons_succ, List.getElem?_nil, g]) | (refine AWp.ret ?_; try simp only [thenP]) | (refine AWp.skip ?_; try simp only [thenP]) | (refine AWp.exit ?_; try simp only [thenP]) | (with_reducible refine BB.go ?_; simp only [blockP, thenP, if_true, if_false, reduceIte]) | (refine AWp.draws tabOk (by kernel_rfl) (by kernel_rfl) ?_; simp [-getElem?_pos, List.getElem?_cons_zero, List.getElem?_cons_succ, List.getElem?_nil, g]) | (with_reducible refine And.intro (show okLog _ _ = true from by kernel_rfl) ?_))
    first | (refine Exec0.call [] hm (by simp [-getElem?_pos, ]) rfl (by simp [-getElem?_pos, List.getElem?_cons_zero, List.getElem?_cons_succ, List.getElem?_nil, ]) ?_; simp [-getElem?_pos, List.getElem?_cons_zero, List.getElem?_cons_succ, List.getElem?_nil, ]) | (refine Exec.call [] hm (by simp [-getElem?_pos, ]) rfl (by simp [-getElem?_pos, List.getElem?_cons_zero, List.getElem?_cons_succ, List.getElem?_nil, ]) ?_; simp [-getElem?_pos, List.getElem?_cons_zero, List.getElem?_cons_succ, List.getElem?_nil, ])
    repeat (first | (with_reducible refine AWp.seqK fun _ => ?_) | (with_reducible refine AWp.blockK fun _ => ?_) | (with_reducible refine KK.go ?_) | (refine AWp.reg tabOk ?_; simp [-getElem?_pos, List.getElem?_cons_zero, List.getElem?_cons_succ, List.getElem?_nil, g]) | (refine AWp.condK fun _ _ => ?_; simp [-getElem?_pos, List.getElem?_cons_zero, List.getElem?_cons_succ, List.getElem?_nil, g]) | (refine AWp.ret ?_; try simp only [thenP]) | (refine AWp.skip ?_; try simp only [thenP]) | (refine AWp.exit ?_; try simp only [thenP]) | (with_reducible refine BB.go ?_; simp only [blockP, thenP, if_true, if_false, reduceIte]) | (refine AWp.draws tabOk (by kernel_rfl) (by kernel_rfl) ?_; simp [-getElem?_pos, List.getElem?_cons_zero, List.getElem?_cons_succ, List.getElem?_nil, g]) | (with_reducible refine And.intro (show okLog _ _ = true from by kernel_rfl) ?_))
    first | (refine Exec0.call [] hm (by simp [-getElem?_pos, ]) rfl (by simp [-getElem?_pos, List.getElem?_cons_zero, List.getElem?_cons_succ, List.getElem?_nil, ]) ?_; simp [-getElem?_pos, List.getElem?_cons_zero, List.getElem?_cons_succ, List.getElem?_nil, ]) | (refine Exec.call [] hm (by simp [-getElem?_pos, ]) rfl (by simp [-getElem?_pos, List.getElem?_cons_zero, List.getElem?_cons_succ, List.getElem?_nil, ]) ?_; simp [-getElem?_pos, List.getElem?_cons_zero, List.getElem?_cons_succ, List.getElem?_nil, ])
    repeat (first | (with_reducible refine AWp.seqK fun _ => ?_) | (with_reducible refine AWp.blockK fun _ => ?_) | (with_reducible refine KK.go ?_) | (refine AWp.reg tabOk ?_; simp [-getElem?_pos, List.getElem?_cons_zero, List.getElem?_cons_succ, List.getElem?_nil, g]) | (refine AWp.condK fun _ _ => ?_; simp [-getElem?_pos, List.getElem?_cons_zero, List.getElem?_cons_succ, List.getElem?_nil, g]) | (refine AWp.ret ?_; try simp only [thenP]) | (refine AWp.skip ?_; try simp only [thenP]) | (refine AWp.exit ?_; try simp only [thenP]) | (with_reducible refine BB.go ?_; simp only [blockP, thenP, if_true, if_false, reduceIte]) | (refine AWp.draws tabOk (by kernel_rfl) (by kernel_rfl) ?_; simp [-getElem?_pos, List.getElem?_cons_zero, List.getElem?_cons_succ, List.getElem?_nil, g]) | (with_reducible refine And.intro (show okLog _ _ = true from by kernel_rfl) ?_))
    (first | refine RR.ret ?_ | refine RR.normal ?_); simp []
end Go.Proofs.Ytigpefjeelgfdaa.Eng

/-
  Layer 1's reference, by the engine: Ask; the statements' own helper.
-/
namespace Go.Proofs.Ytigpefjeelgfdaa.Eng
open Go.RowKit

/-- What to ask for, and how many are left then at worst, when k questions have been looked at. -/
def askTo (x : Works) (lo hi : Int) : Nat → Int × Int
  | 0 => (0, (totN x lo hi : Int) + 1)
  | k + 1 => if (worstAt x lo hi ((k : Int) - 1) : Int) < (askTo x lo hi k).2 then ((k : Int) - 1, (worstAt x lo hi ((k : Int) - 1) : Int)) else askTo x lo hi k
theorem intAt_snoc_lt {l : List Int} {v : Int} {i : Nat} (h : i < l.length) : intAt (l ++ [v]) i = intAt l i := by simp [intAt, List.getElem?_append_left h]
theorem intAt_snoc {l : List Int} {v : Int} : intAt (l ++ [v]) l.length = v := by simp [intAt]
theorem leastTo_snoc {l : List Int} {v : Int} : ∀ k, k ≤ l.length → leastTo (l ++ [v]) k = leastTo l k
  | 0, _ => rfl
  | k + 1, h => by
    have ih := leastTo_snoc (l := l) (v := v) k (by omega)
    have hl := leastTo_le l k
    rw [leastTo, leastTo, ih, intAt_snoc_lt (show k < l.length by omega), intAt_snoc_lt (show leastTo l k < l.length by omega)]
theorem askTo_least {x : Works} {lo hi : Int} (hw : (worstAt x lo hi (-1) : Int) ≤ totN x lo hi) : ∀ k, askTo x lo hi (k + 1) = ((leastTo (wlTo x lo hi (k + 1)) (k + 1) : Int) - 1, intAt (wlTo x lo hi (k + 1)) (leastTo (wlTo x lo hi (k + 1)) (k + 1)))
  | 0 => by
    have h : (worstAt x lo hi (((0 : Nat) : Int) - 1) : Int) < (totN x lo hi : Int) + 1 := by
      rw [show ((0 : Nat) : Int) - 1 = -1 from rfl]; omega
    rw [askTo, askTo, if_pos h]
    simp [leastTo, wlTo, intAt]
  | k + 1 => by
    have ih := askTo_least hw k
    have hl := wlTo_length x lo hi (k + 1)
    have h2 : leastTo (wlTo x lo hi (k + 2)) (k + 1) = leastTo (wlTo x lo hi (k + 1)) (k + 1) := by rw [wlTo]; exact leastTo_snoc _ (by omega)
    have h3 := leastTo_lt (wlTo x lo hi (k + 1)) (k + 1) (by omega)
    have h4 : intAt (wlTo x lo hi (k + 2)) (leastTo (wlTo x lo hi (k + 1)) (k + 1)) = intAt (wlTo x lo hi (k + 1)) (leastTo (wlTo x lo hi (k + 1)) (k + 1)) := by rw [wlTo]; exact intAt_snoc_lt (by omega)
    have h5 : intAt (wlTo x lo hi (k + 2)) (k + 1) = (worstAt x lo hi (((k + 1 : Nat) : Int) - 1) : Int) := by
      rw [wlTo]
      have := intAt_snoc (l := wlTo x lo hi (k + 1)) (v := (worstAt x lo hi (((k + 1 : Nat) : Int) - 1) : Int))
      rwa [hl] at this
    have e : leastTo (wlTo x lo hi (k + 1 + 1)) (k + 1 + 1) = if intAt (wlTo x lo hi (k + 2)) (k + 1) < intAt (wlTo x lo hi (k + 2)) (leastTo (wlTo x lo hi (k + 2)) (k + 1)) then k + 1 else leastTo (wlTo x lo hi (k + 2)) (k + 1) := rfl
    rw [e, h2, h4, h5, askTo, ih]
    by_cases h : (worstAt x lo hi (((k + 1 : Nat) : Int) - 1) : Int) < intAt (wlTo x lo hi (k + 1)) (leastTo (wlTo x lo hi (k + 1)) (k + 1))
    · rw [if_pos h, if_pos h]
      exact congrArg _ h5.symm
    · rw [if_neg h, if_neg h]
      exact congrArg _ h4.symm
theorem worst_le {x : Works} (h : worksErr x = 0) (lo hi : Int) {t : Int} (h1 : -1 ≤ t) (h2 : t < x.steps.length) : worstAt x lo hi t ≤ totN x lo hi := by
  have key : ∀ k : Nat, worstTo (plcN x lo hi) t k ≤ totN x lo hi := by
    intro k
    induction k with
    | zero => simp [worstTo]
    | succ k ih =>
      rw [worstTo, Nat.max_le]
      refine ⟨ih, ?_⟩
      rw [plcN_eq x lo hi t k h1, totN_eq]
      exact List.countP_mono_left fun r _ hr => by
        simp only [Bool.and_eq_true] at hr
        exact hr.1
  exact key _
theorem askTo_end {x : Works} (h : worksErr x = 0) (lo hi : Int) : askTo x lo hi (x.steps.length + 1) = ((askAt x lo hi : Int) - 1, intAt (wlTo x lo hi (x.steps.length + 1)) (askAt x lo hi)) :=
  askTo_least (by have := worst_le h lo hi (t := -1) (by omega) (by omega); omega) _
set_option maxRecDepth 100000 in
set_option maxHeartbeats 4000000 in
theorem refAsk_c (x : Works) (lo hi : Int) (hp : worksErr x = 0 → prodTo x x.steps.length ≤ 400) : ACall Try.prog 42 [worksD x, rgD lo hi] (askD x lo hi) := by
  have hm := measured_c x lo hi
  rw [mea_mak] at hm
  by_cases g : makErr x lo hi = 0
  · have hx := mak_works g
    have hmk := makers_c hx (hp hx) lo hi
    have hlen := mkN_len x lo hi
    have hfew := mkN_few hx (hp hx) lo hi
    rw [g] at hm
    by_cases g2 : totN x lo hi = 0
    · have he : someErr x lo hi = 17 := by rw [someErr, if_neg (by simpa using g), if_pos g2]
      rw [askD, he, if_neg (by decide)]
      obtain hnil : mkN x lo hi = [] := List.length_eq_zero_iff.1 (by omega)
      rw [hnil] at hmk
      refine acallK Try.func42 rfl rfl (show 2 ≤ _ by decide) rfl fun _ => ?_; simp only [Try.ntmps42]
      repeat (first | (with_reducible refine AWp.seqK fun _ => ?_) | (with_reducible refine AWp.blockK fun _ => ?_) | (with_reducible refine KK.go ?_) | (refine AWp.reg tabOk ?_; simp [-getElem?_pos, List.getElem?_cons_zero, List.getElem?_cons_succ, List.getElem?_nil, ]) | (refine AWp.condK fun _ _ => ?_; simp [-getElem?_pos, List.getElem?_cons_zero, List.getElem?_cons_succ, List.getElem?_nil, ]) | (refine AWp.ret ?_; try simp only [thenP]) | (refine AWp.skip ?_; try simp only [thenP]) | (refine AWp.exit ?_; try simp only [thenP]) | (with_reducible refine BB.go ?_; simp only [blockP, thenP, if_true, if_false, reduceIte]) | (refine AWp.draws tabOk (by kernel_rfl) (by kernel_rfl) ?_; simp [-getElem?_pos, List.getElem?_cons_zero, List.getElem?_cons_succ, List.getElem?_nil, ]) | (with_reducible refine And.intro (show okLog _ _ = true from by kernel_rfl) ?_))
      first | (refine Exec0.call [] hm (by simp [-getElem?_pos, ]) rfl (by simp [-getElem?_pos, List.getElem?_cons_zero, List.getElem?_cons_succ, List.getElem?_nil, ]) ?_; simp [-getElem?_pos, List.getElem?_cons_zero, List.getElem?_cons_succ, List.getElem?_nil, ]) | (refine Exec.call [] hm (by simp [-getElem?_pos, ]) rfl (by simp [-getElem?_pos, List.getElem?_cons_zero, List.getElem?_cons_succ, List.getElem?_nil, ]) ?_; simp [-getElem?_pos, List.getElem?_cons_zero, List.getElem?_cons_succ, List.getElem?_nil, ])
      repeat (first | (with_reducible refine AWp.seqK fun _ => ?_) | (with_reducible refine AWp.blockK fun _ => ?_) | (with_reducible refine KK.go ?_) | (refine AWp.reg tabOk ?_; simp [-getElem?_pos, List.getElem?_cons_zero, List.getElem?_cons_succ, List.getElem?_nil, ]) | (refine AWp.condK fun _ _ => ?_; simp [-getElem?_pos, List.getElem?_cons_zero, List.getElem?_cons_succ, List.getElem?_nil, ]) | (refine AWp.ret ?_; try simp only [thenP]) | (refine AWp.skip ?_; try simp only [thenP]) | (refine AWp.exit ?_; try simp only [thenP]) | (with_reducible refine BB.go ?_; simp only [blockP, thenP, if_true, if_false, reduceIte]) | (refine AWp.draws tabOk (by kernel_rfl) (by kernel_rfl) ?_; simp [-getElem?_pos, List.getElem?_cons_zero, List.getElem?_cons_succ, List.getElem?_nil, ]) | (with_reducible refine And.intro (show okLog _ _ = true from by kernel_rfl) ?_))
      first | (refine Exec0.call [] hmk (by simp [-getElem?_pos, ]) rfl (by simp [-getElem?_pos, List.getElem?_cons_zero, List.getElem?_cons_succ, List.getElem?_nil, ]) ?_; simp [-getElem?_pos, List.getElem?_cons_zero, List.getElem?_cons_succ, List.getElem?_nil, ]) | (refine Exec.call [] hmk (by simp [-getElem?_pos, ]) rfl (by simp [-getElem?_pos, List.getElem?_cons_zero, List.getElem?_cons_succ, List.getElem?_nil, ]) ?_; simp [-getElem?_pos, List.getElem?_cons_zero, List.getElem?_cons_succ, List.getElem?_nil, ])
      repeat (first | (with_reducible refine AWp.seqK fun _ => ?_) | (with_reducible refine AWp.blockK fun _ => ?_) | (with_reducible refine KK.go ?_) | (refine AWp.reg tabOk ?_; simp [-getElem?_pos, List.getElem?_cons_zero, List.getElem?_cons_succ, List.getElem?_nil, ]) | (refine AWp.condK fun _ _ => ?_; simp [-getElem?_pos, List.getElem?_cons_zero, List.getElem?_cons_succ, List.getElem?_nil, ]) | (refine AWp.ret ?_; try simp only [thenP]) | (refine AWp.skip ?_; try simp only [thenP]) | (refine AWp.exit ?_; try simp only [thenP]) | (with_reducible refine BB.go ?_; simp only [blockP, thenP, if_true, if_false, reduceIte]) | (refine AWp.draws tabOk (by kernel_rfl) (by kernel_rfl) ?_; simp [-getElem?_pos, List.getElem?_cons_zero, List.getElem?_cons_succ, List.getElem?_nil, ]) | (with_reducible refine And.intro (show okLog _ _ = true from by kernel_rfl) ?_))
      (first | refine RR.ret ?_ | refine RR.normal ?_); simp []
    · have he : someErr x lo hi = 0 := by rw [someErr, if_neg (by simpa using g), if_neg g2]
      have hst := (bars_few hx).2.2
      have h0 : ¬ (mkN x lo hi).length = 0 := by omega
      have h1 : ¬ mkN x lo hi = [] := fun h => h0 (by rw [h]; rfl)
      have hend := askTo_end hx lo hi
      rw [askD, if_pos he]
      generalize askAt x lo hi = aa at *
      generalize intAt (wlTo x lo hi (x.steps.length + 1)) aa = bb at *
      have w0 : IntKind.i64.wrap ((mkN x lo hi).length + 1) = (totN x lo hi : Int) + 1 := by rw [wrap64_in (by omega), hlen]
      refine acallK Try.func42 rfl rfl (show 2 ≤ _ by decide) rfl fun _ => ?_; simp only [Try.ntmps42]
      repeat (first | (with_reducible refine AWp.seqK fun _ => ?_) | (with_reducible refine AWp.blockK fun _ => ?_) | (with_reducible refine KK.go ?_) | (refine AWp.reg tabOk ?_; simp [-getElem?_pos, List.getElem?_cons_zero, List.getElem?_cons_succ, List.getElem?_nil, ]) | (refine AWp.condK fun _ _ => ?_; simp [-getElem?_pos, List.getElem?_cons_zero, List.getElem?_cons_succ, List.getElem?_nil, ]) | (refine AWp.ret ?_; try simp only [thenP]) | (refine AWp.skip ?_; try simp only [thenP]) | (refine AWp.exit ?_; try simp only [thenP]) | (with_reducible refine BB.go ?_; simp only [blockP, thenP, if_true, if_false, reduceIte]) | (refine AWp.draws tabOk (by kernel_rfl) (by kernel_rfl) ?_; simp [-getElem?_pos, List.getElem?_cons_zero, List.getElem?_cons_succ, List.getElem?_nil, ]) | (with_reducible refine And.intro (show okLog _ _ = true from by kernel_rfl) ?_))
      first | (refine Exec0.call [] hm (by simp [-getElem?_pos, ]) rfl (by simp [-getElem?_pos, List.getElem?_cons_zero, List.getElem?_cons_succ, List.getElem?_nil, ]) ?_; simp [-getElem?_pos, List.getElem?_cons_zero, List.getElem?_cons_succ, List.getElem?_nil, ]) | (refine Exec.call [] hm (by simp [-getElem?_pos, ]) rfl (by simp [-getElem?_pos, List.getElem?_cons_zero, List.getElem?_cons_succ, List.getElem?_nil, ]) ?_; simp [-getElem?_pos, List.getElem?_cons_zero, List.getElem?_cons_succ, List.getElem?_nil, ])
      repeat (first | (with_reducible refine AWp.seqK fun _ => ?_) | (with_reducible refine AWp.blockK fun _ => ?_) | (with_reducible refine KK.go ?_) | (refine AWp.reg tabOk ?_; simp [-getElem?_pos, List.getElem?_cons_zero, List.getElem?_cons_succ, List.getElem?_nil, ]) | (refine AWp.condK fun _ _ => ?_; simp [-getElem?_pos, List.getElem?_cons_zero, List.getElem?_cons_succ, List.getElem?_nil, ]) | (refine AWp.ret ?_; try simp only [thenP]) | (refine AWp.skip ?_; try simp only [thenP]) | (refine AWp.exit ?_; try simp only [thenP]) | (with_reducible refine BB.go ?_; simp only [blockP, thenP, if_true, if_false, reduceIte]) | (refine AWp.draws tabOk (by kernel_rfl) (by kernel_rfl) ?_; simp [-getElem?_pos, List.getElem?_cons_zero, List.getElem?_cons_succ, List.getElem?_nil, ]) | (with_reducible refine And.intro (show okLog _ _ = true from by kernel_rfl) ?_))
      first | (refine Exec0.call [] hmk (by simp [-getElem?_pos, ]) rfl (by simp [-getElem?_pos, List.getElem?_cons_zero, List.getElem?_cons_succ, List.getElem?_nil, ]) ?_; simp [-getElem?_pos, List.getElem?_cons_zero, List.getElem?_cons_succ, List.getElem?_nil, ]) | (refine Exec.call [] hmk (by simp [-getElem?_pos, ]) rfl (by simp [-getElem?_pos, List.getElem?_cons_zero, List.getElem?_cons_succ, List.getElem?_nil, ]) ?_; simp [-getElem?_pos, List.getElem?_cons_zero, List.getElem?_cons_succ, List.getElem?_nil, ])
      repeat (first | (with_reducible refine AWp.seqK fun _ => ?_) | (with_reducible refine AWp.blockK fun _ => ?_) | (with_reducible refine KK.go ?_) | (refine AWp.reg tabOk ?_; simp [-getElem?_pos, List.getElem?_cons_zero, List.getElem?_cons_succ, List.getElem?_nil, h0, h1, w0]) | (refine AWp.condK fun _ _ => ?_; simp [-getElem?_pos, List.getElem?_cons_zero, List.getElem?_cons_succ, List.getElem?_nil, h0, h1, w0]) | (refine AWp.ret ?_; try simp only [thenP]) | (refine AWp.skip ?_; try simp only [thenP]) | (refine AWp.exit ?_; try simp only [thenP]) | (with_reducible refine BB.go ?_; simp only [blockP, thenP, if_true, if_false, reduceIte]) | (refine AWp.draws tabOk (by kernel_rfl) (by kernel_rfl) ?_; simp [-getElem?_pos, List.getElem?_cons_zero, List.getElem?_cons_succ, List.getElem?_nil, h0, h1, w0]) | (with_reducible refine And.intro (show okLog _ _ = true from by kernel_rfl) ?_))
      refine AWp.loopK (ι := { k : Nat // k ≤ x.steps.length + 1 }) (n := 1) (fun k => [(2, .ptr 0 0 0), (7, .d (recsD (mkN x lo hi))), (8, .d (iD (askTo x lo hi k.1).1)), (9, .d (iD (askTo x lo hi k.1).2)), (10, .d (iD ((k.1 : Int) - 1)))]) (fun _ => [(0, .box 25 [.d (.list (rgRows x.bars)), .d (.list (stepRows x.steps))] false)]) (fun k => x.steps.length + 1 - k.1) ⟨0, Nat.zero_le _⟩ [0] ?_ ?_
      · refine ⟨by rfl, by simp [askTo], by simp [or_imp, forall_and, askTo] <;> (try (intro _hne; simp [_hne])), by decide⟩
      rintro ⟨k, hk⟩ kk
      have w1 : IntKind.i64.wrap (k : Int) = (k : Int) := wrap64_in (by omega)
      by_cases hlt : (k : Int) - 1 < x.steps.length
      · have hc := counts_c hx (hp hx) lo hi (t := (k : Int) - 1) (by omega) hlt
        have hb6 := bumps_len (mkN x lo hi) ((k : Int) - 1) (mkN x lo hi).length
        have hbv := fun (j : Nat) (hj : j < 6) => bump_plc hx lo hi (t := (k : Int) - 1) (by omega) hlt hj
        have hw6 := worst_six hx lo hi (t := (k : Int) - 1) (by omega) hlt
        generalize bumps (mkN x lo hi) ((k : Int) - 1) (mkN x lo hi).length = bl at *
        repeat (first | (with_reducible refine AWp.seqK fun _ => ?_) | (with_reducible refine AWp.blockK fun _ => ?_) | (with_reducible refine KK.go ?_) | (refine AWp.reg tabOk ?_; simp [-getElem?_pos, List.getElem?_cons_zero, List.getElem?_cons_succ, List.getElem?_nil, hlt]) | (refine AWp.condK fun _ _ => ?_; simp [-getElem?_pos, List.getElem?_cons_zero, List.getElem?_cons_succ, List.getElem?_nil, hlt]) | (refine AWp.ret ?_; try simp only [thenP]) | (refine AWp.skip ?_; try simp only [thenP]) | (refine AWp.exit ?_; try simp only [thenP]) | (with_reducible refine BB.go ?_; simp only [blockP, thenP, if_true, if_false, reduceIte]) | (refine AWp.draws tabOk (by kernel_rfl) (by kernel_rfl) ?_; simp [-getElem?_pos, List.getElem?_cons_zero, List.getElem?_cons_succ, List.getElem?_nil, hlt]) | (with_reducible refine And.intro (show okLog _ _ = true from by kernel_rfl) ?_))
        first | (refine Exec0.call [] hc (by simp [-getElem?_pos, ]) rfl (by simp [-getElem?_pos, List.getElem?_cons_zero, List.getElem?_cons_succ, List.getElem?_nil, ]) ?_; simp [-getElem?_pos, List.getElem?_cons_zero, List.getElem?_cons_succ, List.getElem?_nil, ]) | (refine Exec.call [] hc (by simp [-getElem?_pos, ]) rfl (by simp [-getElem?_pos, List.getElem?_cons_zero, List.getElem?_cons_succ, List.getElem?_nil, ]) ?_; simp [-getElem?_pos, List.getElem?_cons_zero, List.getElem?_cons_succ, List.getElem?_nil, ])
        repeat (first | (with_reducible refine AWp.seqK fun _ => ?_) | (with_reducible refine AWp.blockK fun _ => ?_) | (with_reducible refine KK.go ?_) | (refine AWp.reg tabOk ?_; simp [-getElem?_pos, List.getElem?_cons_zero, List.getElem?_cons_succ, List.getElem?_nil, hlt]) | (refine AWp.condK fun _ _ => ?_; simp [-getElem?_pos, List.getElem?_cons_zero, List.getElem?_cons_succ, List.getElem?_nil, hlt]) | (refine AWp.ret ?_; try simp only [thenP]) | (refine AWp.skip ?_; try simp only [thenP]) | (refine AWp.exit ?_; try simp only [thenP]) | (with_reducible refine BB.go ?_; simp only [blockP, thenP, if_true, if_false, reduceIte]) | (refine AWp.draws tabOk (by kernel_rfl) (by kernel_rfl) ?_; simp [-getElem?_pos, List.getElem?_cons_zero, List.getElem?_cons_succ, List.getElem?_nil, hlt]) | (with_reducible refine And.intro (show okLog _ _ = true from by kernel_rfl) ?_))
        refine AWp.loopK (ι := { j : Nat // j ≤ 6 }) (n := 1) (fun j => [(2, .ptr 0 0 0), (7, .d (recsD (mkN x lo hi))), (8, .d (iD (askTo x lo hi k).1)), (9, .d (iD (askTo x lo hi k).2)), (10, .d (iD ((k : Int) - 1))), (11, .d (intL bl)), (12, .d (iD (worstTo (plcN x lo hi) ((k : Int) - 1) j.1))), (13, .d (iD j.1))]) (fun _ => [(0, .box 25 [.d (.list (rgRows x.bars)), .d (.list (stepRows x.steps))] false)]) (fun j => 6 - j.1) ⟨0, Nat.zero_le _⟩ [0] ?_ ?_
        · refine ⟨by rfl, by simp [worstTo], by simp [or_imp, forall_and, worstTo] <;> (try (intro _hne; simp [_hne])), by decide⟩
        rintro ⟨j, hj⟩ kk2
        have w2 : IntKind.i64.wrap ((j : Int) + 1) = (j : Int) + 1 := wrap64_in (by omega)
        by_cases hlt2 : j < 6
        · have hlt3 : (j : Int) < 6 := by omega
          have hy : bl[j]? = some (plcN x lo hi ((k : Int) - 1) j : Int) := by
            have := hbv j hlt2
            rw [List.getD_eq_getElem?_getD, List.getElem?_eq_getElem (by omega), Option.getD_some] at this
            rw [List.getElem?_eq_getElem (by omega), this]
          have hwj : (worstTo (plcN x lo hi) ((k : Int) - 1) (j + 1) : Int) = if worstTo (plcN x lo hi) ((k : Int) - 1) j < plcN x lo hi ((k : Int) - 1) j then (plcN x lo hi ((k : Int) - 1) j : Int) else (worstTo (plcN x lo hi) ((k : Int) - 1) j : Int) := by
            rw [worstTo]
            split <;> omega
          repeat (first | (with_reducible refine AWp.seqK fun _ => ?_) | (with_reducible refine AWp.blockK fun _ => ?_) | (with_reducible refine KK.go ?_) | (refine AWp.reg tabOk ?_; simp [-getElem?_pos, List.getElem?_cons_zero, List.getElem?_cons_succ, List.getElem?_nil, hlt2, hlt3, hb6, hy, w2]) | (refine AWp.condK fun _ _ => ?_; simp [-getElem?_pos, List.getElem?_cons_zero, List.getElem?_cons_succ, List.getElem?_nil, hlt2, hlt3, hb6, hy, w2]) | (refine AWp.ret ?_; try simp only [thenP]) | (refine AWp.skip ?_; try simp only [thenP]) | (refine AWp.exit ?_; try simp only [thenP]) | (with_reducible refine BB.go ?_; simp only [blockP, thenP, if_true, if_false, reduceIte]) | (refine AWp.draws tabOk (by kernel_rfl) (by kernel_rfl) ?_; simp [-getElem?_pos, List.getElem?_cons_zero, List.getElem?_cons_succ, List.getElem?_nil, hlt2, hlt3, hb6, hy, w2]) | (with_reducible refine And.intro (show okLog _ _ = true from by kernel_rfl) ?_))
          refine LL.go ⟨j + 1, hlt2⟩ [0] ⟨by rfl, by simp [hwj], by simp [or_imp, forall_and, hwj] <;> (try (intro _hne; simp [_hne])), by decide⟩ ?_
          simp; omega
        · obtain rfl : j = 6 := by omega
          by_cases hcmp : (worstAt x lo hi ((k : Int) - 1) : Int) < (askTo x lo hi k).2
          · have hsn : askTo x lo hi (k + 1) = ((k : Int) - 1, (worstAt x lo hi ((k : Int) - 1) : Int)) := by rw [askTo, if_pos hcmp]
            repeat (first | (with_reducible refine AWp.seqK fun _ => ?_) | (with_reducible refine AWp.blockK fun _ => ?_) | (with_reducible refine KK.go ?_) | (refine AWp.reg tabOk ?_; simp [-getElem?_pos, List.getElem?_cons_zero, List.getElem?_cons_succ, List.getElem?_nil, hb6, hw6, hcmp, w1]) | (refine AWp.condK fun _ _ => ?_; simp [-getElem?_pos, List.getElem?_cons_zero, List.getElem?_cons_succ, List.getElem?_nil, hb6, hw6, hcmp, w1]) | (refine AWp.ret ?_; try simp only [thenP]) | (refine AWp.skip ?_; try simp only [thenP]) | (refine AWp.exit ?_; try simp only [thenP]) | (with_reducible refine BB.go ?_; simp only [blockP, thenP, if_true, if_false, reduceIte]) | (refine AWp.draws tabOk (by kernel_rfl) (by kernel_rfl) ?_; simp [-getElem?_pos, List.getElem?_cons_zero, List.getElem?_cons_succ, List.getElem?_nil, hb6, hw6, hcmp, w1]) | (with_reducible refine And.intro (show okLog _ _ = true from by kernel_rfl) ?_))
            refine LL.go ⟨k + 1, by omega⟩ [0] ⟨by rfl, by simp [hsn], by simp [or_imp, forall_and, hsn] <;> (try (intro _hne; simp [_hne])), by decide⟩ ?_
            simp; omega
          · have hsn : askTo x lo hi (k + 1) = askTo x lo hi k := by rw [askTo, if_neg hcmp]
            repeat (first | (with_reducible refine AWp.seqK fun _ => ?_) | (with_reducible refine AWp.blockK fun _ => ?_) | (with_reducible refine KK.go ?_) | (refine AWp.reg tabOk ?_; simp [-getElem?_pos, List.getElem?_cons_zero, List.getElem?_cons_succ, List.getElem?_nil, hb6, hw6, hcmp, w1]) | (refine AWp.condK fun _ _ => ?_; simp [-getElem?_pos, List.getElem?_cons_zero, List.getElem?_cons_succ, List.getElem?_nil, hb6, hw6, hcmp, w1]) | (refine AWp.ret ?_; try simp only [thenP]) | (refine AWp.skip ?_; try simp only [thenP]) | (refine AWp.exit ?_; try simp only [thenP]) | (with_reducible refine BB.go ?_; simp only [blockP, thenP, if_true, if_false, reduceIte]) | (refine AWp.draws tabOk (by kernel_rfl) (by kernel_rfl) ?_; simp [-getElem?_pos, List.getElem?_cons_zero, List.getElem?_cons_succ, List.getElem?_nil, hb6, hw6, hcmp, w1]) | (with_reducible refine And.intro (show okLog _ _ = true from by kernel_rfl) ?_))
            refine LL.go ⟨k + 1, by omega⟩ [0] ⟨by rfl, by simp [hsn], by simp [or_imp, forall_and, hsn] <;> (try (intro _hne; simp [_hne])), by decide⟩ ?_
            simp; omega
      · obtain rfl : k = x.steps.length + 1 := by omega
        repeat (first | (with_reducible refine AWp.seqK fun _ => ?_) | (with_reducible refine AWp.blockK fun _ => ?_) | (with_reducible refine KK.go ?_) | (refine AWp.reg tabOk ?_; simp [-getElem?_pos, List.getElem?_cons_zero, List.getElem?_cons_succ, List.getElem?_nil, hlt, hend]) | (refine AWp.condK fun _ _ => ?_; simp [-getElem?_pos, List.getElem?_cons_zero, List.getElem?_cons_succ, List.getElem?_nil, hlt, hend]) | (refine AWp.ret ?_; try simp only [thenP]) | (refine AWp.skip ?_; try simp only [thenP]) | (refine AWp.exit ?_; try simp only [thenP]) | (with_reducible refine BB.go ?_; simp only [blockP, thenP, if_true, if_false, reduceIte]) | (refine AWp.draws tabOk (by kernel_rfl) (by kernel_rfl) ?_; simp [-getElem?_pos, List.getElem?_cons_zero, List.getElem?_cons_succ, List.getElem?_nil, hlt, hend]) | (with_reducible refine And.intro (show okLog _ _ = true from by kernel_rfl) ?_))
        (first | refine RR.ret ?_ | refine RR.normal ?_); simp []
  · have he : someErr x lo hi = makErr x lo hi := by rw [someErr, if_pos g]
    rw [askD, he, if_neg g]
    generalize makErr x lo hi = e at *
    refine acallK Try.func42 rfl rfl (show 2 ≤ _ by decide) rfl fun _ => ?_; simp only [Try.ntmps42]
    repeat (first | (with_reducible refine AWp.seqK fun _ => ?_) | (with_reducible refine AWp.blockK fun _ => ?_) | (with_reducible refine KK.go ?_) | (refine AWp.reg tabOk ?_; simp [-getElem?_pos, List.getElem?_cons_zero, List.getElem?_cons_succ, List.getElem?_nil, g]) | (refine AWp.condK fun _ _ => ?_; simp [-getElem?_pos, List.getElem?_cons_zero, List.getElem?_cons_succ, List.getElem?_nil, g]) | (refine AWp.ret ?_; try simp only [thenP]) | (refine AWp.skip ?_; try simp only [thenP]) | (refine AWp.exit ?_; try simp only [thenP]) | (with_reducible refine BB.go ?_; simp only [blockP, thenP, if_true, if_false, reduceIte]) | (refine AWp.draws tabOk (by kernel_rfl) (by kernel_rfl) ?_; simp [-getElem?_pos, List.getElem?_cons_zero, List.getElem?_cons_succ, List.getElem?_nil, g]) | (with_reducible refine And.intro (show okLog _ _ = true from by kernel_rfl) ?_))
    first | (refine Exec0.call [] hm (by simp [-getElem?_pos, ]) rfl (by simp [-getElem?_pos, List.getElem?_cons_zero, List.getElem?_cons_succ, List.getElem?_nil, ]) ?_; simp [-getElem?_pos, List.getElem?_cons_zero, List.getElem?_cons_succ, List.getElem?_nil, ]) | (refine Exec.call [] hm (by simp [-getElem?_pos, ]) rfl (by simp [-getElem?_pos, List.getElem?_cons_zero, List.getElem?_cons_succ, List.getElem?_nil, ]) ?_; simp [-getElem?_pos, List.getElem?_cons_zero, List.getElem?_cons_succ, List.getElem?_nil, ])
    repeat (first | (with_reducible refine AWp.seqK fun _ => ?_) | (with_reducible refine AWp.blockK fun _ => ?_) | (with_reducible refine KK.go ?_) | (refine AWp.reg tabOk ?_; simp [-getElem?_pos, List.getElem?_cons_zero, List.getElem?_cons_succ, List.getElem?_nil, g]) | (refine AWp.condK fun _ _ => ?_; simp [-getElem?_pos, List.getElem?_cons_zero, List.getElem?_cons_succ, List.getElem?_nil, g]) | (refine AWp.ret ?_; try simp only [thenP]) | (refine AWp.skip ?_; try simp only [thenP]) | (refine AWp.exit ?_; try simp only [thenP]) | (with_reducible refine BB.go ?_; simp only [blockP, thenP, if_true, if_false, reduceIte]) | (refine AWp.draws tabOk (by kernel_rfl) (by kernel_rfl) ?_; simp [-getElem?_pos, List.getElem?_cons_zero, List.getElem?_cons_succ, List.getElem?_nil, g]) | (with_reducible refine And.intro (show okLog _ _ = true from by kernel_rfl) ?_))
    first | (refine Exec0.call [] hm (by simp [-getElem?_pos, ]) rfl (by simp [-getElem?_pos, List.getElem?_cons_zero, List.getElem?_cons_succ, List.getElem?_nil, ]) ?_; simp [-getElem?_pos, List.getElem?_cons_zero, List.getElem?_cons_succ, List.getElem?_nil, ]) | (refine Exec.call [] hm (by simp [-getElem?_pos, ]) rfl (by simp [-getElem?_pos, List.getElem?_cons_zero, List.getElem?_cons_succ, List.getElem?_nil, ]) ?_; simp [-getElem?_pos, List.getElem?_cons_zero, List.getElem?_cons_succ, List.getElem?_nil, ])
    repeat (first | (with_reducible refine AWp.seqK fun _ => ?_) | (with_reducible refine AWp.blockK fun _ => ?_) | (with_reducible refine KK.go ?_) | (refine AWp.reg tabOk ?_; simp [-getElem?_pos, List.getElem?_cons_zero, List.getElem?_cons_succ, List.getElem?_nil, g]) | (refine AWp.condK fun _ _ => ?_; simp [-getElem?_pos, List.getElem?_cons_zero, List.getElem?_cons_succ, List.getElem?_nil, g]) | (refine AWp.ret ?_; try simp only [thenP]) | (refine AWp.skip ?_; try simp only [thenP]) | (refine AWp.exit ?_; try simp only [thenP]) | (with_reducible refine BB.go ?_; simp only [blockP, thenP, if_true, if_false, reduceIte]) | (refine AWp.draws tabOk (by kernel_rfl) (by kernel_rfl) ?_; simp [-getElem?_pos, List.getElem?_cons_zero, List.getElem?_cons_succ, List.getElem?_nil, g]) | (with_reducible refine And.intro (show okLog _ _ = true from by kernel_rfl) ?_))
    (first | refine RR.ret ?_ | refine RR.normal ?_); simp []
end Go.Proofs.Ytigpefjeelgfdaa.Eng

/-
  Layer 1's statements, by the engine: too many recipes; makers and questions.
-/
namespace Go.Proofs.Ytigpefjeelgfdaa.Eng
open Go.RowKit

set_option maxRecDepth 100000 in
set_option maxHeartbeats 4000000 in
theorem full_c (x : Works) : ACall Try.prog 32 [worksD x] (bD (fullB x)) := by
  have hm := checkWorks_c x
  by_cases g : worksErr x = 0
  · have hf : fullB x = decide (400 < prodTo x x.steps.length) := by simp [fullB, g]
    have hst := bars_few g
    rw [hf]
    rw [g] at hm
    refine acallK Try.func32 rfl rfl (show 1 ≤ _ by decide) rfl fun _ => ?_; simp only [Try.ntmps32]
    repeat (first | (with_reducible refine AWp.seqK fun _ => ?_) | (with_reducible refine AWp.blockK fun _ => ?_) | (with_reducible refine KK.go ?_) | (refine AWp.reg tabOk ?_; simp [-getElem?_pos, List.getElem?_cons_zero, List.getElem?_cons_succ, List.getElem?_nil, ]) | (refine AWp.condK fun _ _ => ?_; simp [-getElem?_pos, List.getElem?_cons_zero, List.getElem?_cons_succ, List.getElem?_nil, ]) | (refine AWp.ret ?_; try simp only [thenP]) | (refine AWp.skip ?_; try simp only [thenP]) | (refine AWp.exit ?_; try simp only [thenP]) | (with_reducible refine BB.go ?_; simp only [blockP, thenP, if_true, if_false, reduceIte]) | (refine AWp.draws tabOk (by kernel_rfl) (by kernel_rfl) ?_; simp [-getElem?_pos, List.getElem?_cons_zero, List.getElem?_cons_succ, List.getElem?_nil, ]) | (with_reducible refine And.intro (show okLog _ _ = true from by kernel_rfl) ?_))
    first | (refine Exec0.call [] hm (by simp [-getElem?_pos, ]) rfl (by simp [-getElem?_pos, List.getElem?_cons_zero, List.getElem?_cons_succ, List.getElem?_nil, ]) ?_; simp [-getElem?_pos, List.getElem?_cons_zero, List.getElem?_cons_succ, List.getElem?_nil, ]) | (refine Exec.call [] hm (by simp [-getElem?_pos, ]) rfl (by simp [-getElem?_pos, List.getElem?_cons_zero, List.getElem?_cons_succ, List.getElem?_nil, ]) ?_; simp [-getElem?_pos, List.getElem?_cons_zero, List.getElem?_cons_succ, List.getElem?_nil, ])
    repeat (first | (with_reducible refine AWp.seqK fun _ => ?_) | (with_reducible refine AWp.blockK fun _ => ?_) | (with_reducible refine KK.go ?_) | (refine AWp.reg tabOk ?_; simp [-getElem?_pos, List.getElem?_cons_zero, List.getElem?_cons_succ, List.getElem?_nil, ]) | (refine AWp.condK fun _ _ => ?_; simp [-getElem?_pos, List.getElem?_cons_zero, List.getElem?_cons_succ, List.getElem?_nil, ]) | (refine AWp.ret ?_; try simp only [thenP]) | (refine AWp.skip ?_; try simp only [thenP]) | (refine AWp.exit ?_; try simp only [thenP]) | (with_reducible refine BB.go ?_; simp only [blockP, thenP, if_true, if_false, reduceIte]) | (refine AWp.draws tabOk (by kernel_rfl) (by kernel_rfl) ?_; simp [-getElem?_pos, List.getElem?_cons_zero, List.getElem?_cons_succ, List.getElem?_nil, ]) | (with_reducible refine And.intro (show okLog _ _ = true from by kernel_rfl) ?_))
    refine AWp.loopK (ι := { k : Nat // k ≤ x.steps.length }) (n := 1) (fun k => [(1, .ptr 0 0 0), (3, .d (iD (prodTo x k.1))), (4, .d (iD k.1))]) (fun _ => [(0, .box 25 [.d (.list (rgRows x.bars)), .d (.list (stepRows x.steps))] false)]) (fun k => x.steps.length - k.1) ⟨0, Nat.zero_le _⟩ [0] ?_ ?_
    · refine ⟨by rfl, by simp [prodTo], by simp [or_imp, forall_and, prodTo] <;> (try (intro _hne; simp [_hne])), by decide⟩
    rintro ⟨k, hk⟩ kk
    have w1 : IntKind.i64.wrap ((k : Int) + 1) = (k : Int) + 1 := wrap64_in (by omega)
    by_cases hlt : k < x.steps.length
    · obtain ⟨ws, hws⟩ : ∃ ws, x.steps[k]? = some ws := ⟨_, List.getElem?_eq_getElem hlt⟩
      have hpk : prodTo x (k + 1) = prodTo x k * ws.length := by rw [prodTo, stepAt_of (Lib.hid hws)]
      have hpf := prod_few g (i := k + 1) (by omega)
      have w2 : IntKind.i64.wrap ((prodTo x k : Int) * (ws.length : Int)) = (prodTo x (k + 1) : Int) := by
        rw [← Int.natCast_mul, ← hpk]
        exact wrap64_in (by omega)
      generalize hpp : prodTo x (k + 1) = pp at *
      repeat (first | (with_reducible refine AWp.seqK fun _ => ?_) | (with_reducible refine AWp.blockK fun _ => ?_) | (with_reducible refine KK.go ?_) | (refine AWp.reg tabOk ?_; simp [-getElem?_pos, List.getElem?_cons_zero, List.getElem?_cons_succ, List.getElem?_nil, hlt, hws, w1, w2]) | (refine AWp.condK fun _ _ => ?_; simp [-getElem?_pos, List.getElem?_cons_zero, List.getElem?_cons_succ, List.getElem?_nil, hlt, hws, w1, w2]) | (refine AWp.ret ?_; try simp only [thenP]) | (refine AWp.skip ?_; try simp only [thenP]) | (refine AWp.exit ?_; try simp only [thenP]) | (with_reducible refine BB.go ?_; simp only [blockP, thenP, if_true, if_false, reduceIte]) | (refine AWp.draws tabOk (by kernel_rfl) (by kernel_rfl) ?_; simp [-getElem?_pos, List.getElem?_cons_zero, List.getElem?_cons_succ, List.getElem?_nil, hlt, hws, w1, w2]) | (with_reducible refine And.intro (show okLog _ _ = true from by kernel_rfl) ?_))
      refine LL.go ⟨k + 1, hlt⟩ [0] ⟨by rfl, by simp [hpp], by simp [or_imp, forall_and, hpp] <;> (try (intro _hne; simp [_hne])), by decide⟩ ?_
      simp; omega
    · obtain rfl : k = x.steps.length := by omega
      repeat (first | (with_reducible refine AWp.seqK fun _ => ?_) | (with_reducible refine AWp.blockK fun _ => ?_) | (with_reducible refine KK.go ?_) | (refine AWp.reg tabOk ?_; simp [-getElem?_pos, List.getElem?_cons_zero, List.getElem?_cons_succ, List.getElem?_nil, hlt]) | (refine AWp.condK fun _ _ => ?_; simp [-getElem?_pos, List.getElem?_cons_zero, List.getElem?_cons_succ, List.getElem?_nil, hlt]) | (refine AWp.ret ?_; try simp only [thenP]) | (refine AWp.skip ?_; try simp only [thenP]) | (refine AWp.exit ?_; try simp only [thenP]) | (with_reducible refine BB.go ?_; simp only [blockP, thenP, if_true, if_false, reduceIte]) | (refine AWp.draws tabOk (by kernel_rfl) (by kernel_rfl) ?_; simp [-getElem?_pos, List.getElem?_cons_zero, List.getElem?_cons_succ, List.getElem?_nil, hlt]) | (with_reducible refine And.intro (show okLog _ _ = true from by kernel_rfl) ?_))
      (first | refine RR.ret ?_ | refine RR.normal ?_); simp []
      omega
  · have hf : fullB x = false := by simp [fullB, g]
    rw [hf]
    generalize worksErr x = e at *
    refine acallK Try.func32 rfl rfl (show 1 ≤ _ by decide) rfl fun _ => ?_; simp only [Try.ntmps32]
    repeat (first | (with_reducible refine AWp.seqK fun _ => ?_) | (with_reducible refine AWp.blockK fun _ => ?_) | (with_reducible refine KK.go ?_) | (refine AWp.reg tabOk ?_; simp [-getElem?_pos, List.getElem?_cons_zero, List.getElem?_cons_succ, List.getElem?_nil, g]) | (refine AWp.condK fun _ _ => ?_; simp [-getElem?_pos, List.getElem?_cons_zero, List.getElem?_cons_succ, List.getElem?_nil, g]) | (refine AWp.ret ?_; try simp only [thenP]) | (refine AWp.skip ?_; try simp only [thenP]) | (refine AWp.exit ?_; try simp only [thenP]) | (with_reducible refine BB.go ?_; simp only [blockP, thenP, if_true, if_false, reduceIte]) | (refine AWp.draws tabOk (by kernel_rfl) (by kernel_rfl) ?_; simp [-getElem?_pos, List.getElem?_cons_zero, List.getElem?_cons_succ, List.getElem?_nil, g]) | (with_reducible refine And.intro (show okLog _ _ = true from by kernel_rfl) ?_))
    first | (refine Exec0.call [] hm (by simp [-getElem?_pos, ]) rfl (by simp [-getElem?_pos, List.getElem?_cons_zero, List.getElem?_cons_succ, List.getElem?_nil, ]) ?_; simp [-getElem?_pos, List.getElem?_cons_zero, List.getElem?_cons_succ, List.getElem?_nil, ]) | (refine Exec.call [] hm (by simp [-getElem?_pos, ]) rfl (by simp [-getElem?_pos, List.getElem?_cons_zero, List.getElem?_cons_succ, List.getElem?_nil, ]) ?_; simp [-getElem?_pos, List.getElem?_cons_zero, List.getElem?_cons_succ, List.getElem?_nil, ])
    repeat (first | (with_reducible refine AWp.seqK fun _ => ?_) | (with_reducible refine AWp.blockK fun _ => ?_) | (with_reducible refine KK.go ?_) | (refine AWp.reg tabOk ?_; simp [-getElem?_pos, List.getElem?_cons_zero, List.getElem?_cons_succ, List.getElem?_nil, g]) | (refine AWp.condK fun _ _ => ?_; simp [-getElem?_pos, List.getElem?_cons_zero, List.getElem?_cons_succ, List.getElem?_nil, g]) | (refine AWp.ret ?_; try simp only [thenP]) | (refine AWp.skip ?_; try simp only [thenP]) | (refine AWp.exit ?_; try simp only [thenP]) | (with_reducible refine BB.go ?_; simp only [blockP, thenP, if_true, if_false, reduceIte]) | (refine AWp.draws tabOk (by kernel_rfl) (by kernel_rfl) ?_; simp [-getElem?_pos, List.getElem?_cons_zero, List.getElem?_cons_succ, List.getElem?_nil, g]) | (with_reducible refine And.intro (show okLog _ _ = true from by kernel_rfl) ?_))
    (first | refine RR.ret ?_ | refine RR.normal ?_); simp []
end Go.Proofs.Ytigpefjeelgfdaa.Eng
