/-
  HoneKeener returns true, for every box, edge, goal, keener edge, less keen goal, stone more and strokes: an edge that is at least as keen can make all strokes that another one can, and is at least as keen after them; it does not need more strokes, nor does a goal that is less keen, nor a box with a stone more. No condition.
-/
import Derived.Test.YtgiomfamlbmpcaaDt7
set_option linter.unusedSimpArgs false
set_option linter.unusedVariables false
noncomputable section
namespace Go.Proofs.Ytgiomfamlbmpcaa.Eng
open Go.RowKit
set_option maxRecDepth 100000
set_option maxHeartbeats 32000000
theorem arr2_in {d : Dat} (h : (Sh.arr 2 (.int .u8)).D d) : ∃ a b : Nat, d = .agg [.val (.int .u8 a), .val (.int .u8 b)] ∧ a ≤ 255 ∧ b ≤ 255 := by
  obtain ⟨r, rfl, rows, h1, rfl, h2⟩ := h
  match rows, h1 with
  | [x, y], _ =>
    obtain ⟨n, rfl, hn⟩ := h2 x (by simp)
    obtain ⟨m, rfl, hm⟩ := h2 y (by simp)
    obtain ⟨a, ea, ha⟩ := u8_in ⟨n, rfl, hn⟩
    obtain ⟨b, eb, hb⟩ := u8_in ⟨m, rfl, hm⟩
    exact ⟨a, b, by rw [ea, eb]; rfl, ha, hb⟩
theorem stn_in {d : Dat} (h : shStone.D d) : ∃ s : HS, d = stnD s := by
  obtain ⟨r, rfl, h⟩ := h
  obtain ⟨s, rfl⟩ := stone_in h
  exact ⟨s, rfl⟩
theorem chk_mk {l : List HS} {e g : HE} (h0 : chkErr l [e, g] = 0) {x y : HE} (hx : okE x = true) (hy : okE y = true) : chkErr l [x, y] = 0 ∧ chkErr l [x] = 0 := by
  have hb : boxErr l = 0 := Classical.byContradiction fun hn => by rw [chkErr, if_neg hn] at h0; exact hn h0
  constructor
  · rw [chkErr, if_pos hb]; simp [hx, hy]
  · rw [chkErr, if_pos hb]; simp [hx]
theorem okE_mk {e : HE} (ge : GoodE e) : okE e = true := by
  rw [okE_eq]
  exact decide_eq_true ⟨⟨ge.d0, ge.d1⟩, ge.b0, ge.b1⟩
theorem aft_keen {l : List HS} {e g x : HE} (h0 : chkErr l [e, g] = 0) (gx : GoodE x) (hk : keenB x e = true) {t : List Int} (ha : aftE l e t = 0) : aftE l x t = 0 ∧ keenB (aftR l x t) (aftR l e t) = true := by
  obtain ⟨hr, ht⟩ := aft_run ha
  obtain ⟨b, hb, hba⟩ := run_keen t hk hr
  have hf : ¬ fromK 0 ((l.length : Int) - 1) t = false := by
    intro h
    rw [aftE, if_pos (chk_goal h0).2, if_neg (by omega), if_pos h] at ha
    cases ha
  have hcx := (chk_mk h0 (okE_mk gx) (okE_mk gx)).2
  refine ⟨by rw [aftE, if_pos hcx, if_neg (by omega), if_neg hf, hb], ?_⟩
  rw [show aftR l x t = b by rw [aftR, if_pos hcx, if_neg (by omega), if_neg hf, hb]; rfl]
  exact hba
theorem few_le2 {l l' : List HS} {e g e' g' : HE} (h0 : chkErr l [e, g] = 0) (h0' : chkErr l' [e', g'] = 0) (h : ∀ (t : List Int) x, runE l t e = some x → keenB x g = true → ∃ x', runE l' t e' = some x' ∧ keenB x' g' = true) : fewN l' g' e' ≤ fewN l g e := by
  obtain ⟨hb, hes⟩ := chkOk h0
  obtain ⟨hb', hes'⟩ := chkOk h0'
  have gg := goodE (e := g) (by simp at hes; exact hes.2)
  have ge := goodE (e := e) (by simp at hes; exact hes.1)
  have gg' := goodE (e := g') (by simp at hes'; exact hes'.2)
  have ge' := goodE (e := e') (by simp at hes'; exact hes'.1)
  cases hn : needN l g e with
  | none =>
    have : fewN l g e = 1000 := by rw [fewN, hn]; rfl
    rw [this, fewN]
    cases hn' : needN l' g' e' with
    | none => exact Nat.le_refl _
    | some k => have := (rows_take hn').2; simp only [Option.getD_some]; omega
  | some k =>
    have hk : fewN l g e = k := by rw [fewN, hn]; rfl
    have hk8 := (rows_take hn).2
    rw [hk, few_le h0' (by omega)]
    obtain ⟨t, ht, x, hr, hx⟩ := (has_run hb.all gg k e ge).1 ((need_some hb.all gg ge).1 hn).1
    obtain ⟨x', hr', hx'⟩ := h t x hr hx
    exact (has_run hb'.all gg' k e' ge').2 ⟨t, ht, x', hr', hx'⟩
theorem run_more {l : List HS} (s : HS) : ∀ (t : List Int) {e a : HE}, runE l t e = some a → runE (l ++ [s]) t e = some a
  | [], e, a, h => h
  | i :: t, e, a, h => by
    rw [runE] at h ⊢
    cases hs : l[i.toNat]? with
    | none => rw [hs] at h; cases h
    | some q =>
      have : (l ++ [s])[i.toNat]? = some q := by rw [List.getElem?_append_left (List.getElem?_eq_some_iff.1 hs).1, hs]
      rw [this]
      rw [hs] at h
      simp only at h ⊢
      cases hc : canS q e with
      | false => rw [hc] at h; cases h
      | true =>
        rw [hc] at h
        rw [if_pos rfl] at h ⊢
        exact run_more s t h
theorem honeKeener_c (l : List HS) (e g : HE) (k0 k1 u0 u1 : Nat) (hk0 : k0 ≤ 255) (hk1 : k1 ≤ 255) (hu0 : u0 ≤ 255) (hu1 : u1 ≤ 255) (s : HS) (t : List Int) :
    ACall Try.prog 10 [boxD l, edgD e, edgD g, .agg [.val (.int .u8 k0), .val (.int .u8 k1)], .agg [.val (.int .u8 u0), .val (.int .u8 u1)], stnD s, intL t] (bD true) := by
  have cf := fine_c l e g
  have cw := works_call
  rcases hf : fineB l e g <;> rw [hf] at cf
  · refine acallK tabOk Try.func10 rfl rfl (show 7 ≤ _ by decide) rfl fun _ => ?_; simp only [Try.ntmps10]
    repeat (first | (with_reducible first | refine zq1 fun _ => ?_ | refine zq2 fun _ => ?_ | refine zq3 ?_) | ((first | refine zq4 ?_ | refine zq5 fun _ _ => ?_ | refine zq6 ?_); simp [-getElem?_pos, z0, z1, z2, z0]) | ((first | refine AWp.ret ?_ | refine AWp.skip ?_ | refine AWp.exit ?_); try simp only [thenP]) | (with_reducible refine zq7 ?_; simp only [blockP, thenP, reduceIte]) | with_reducible refine zq8 ?_)
    (first | refine Exec0.call [] cf ?_ rfl ?_ ?_ | refine Exec.call [] cf ?_ rfl ?_ ?_); (focus simp [-getElem?_pos, z0]); (focus simp [-getElem?_pos, z0, z1, z2, z0]); simp [-getElem?_pos, z0, z1, z2, z0]
    repeat (first | (with_reducible first | refine zq1 fun _ => ?_ | refine zq2 fun _ => ?_ | refine zq3 ?_) | ((first | refine zq4 ?_ | refine zq5 fun _ _ => ?_ | refine zq6 ?_); simp [-getElem?_pos, z0, z1, z2, z0]) | ((first | refine AWp.ret ?_ | refine AWp.skip ?_ | refine AWp.exit ?_); try simp only [thenP]) | (with_reducible refine zq7 ?_; simp only [blockP, thenP, reduceIte]) | with_reducible refine zq8 ?_)
    (first | refine Exec0.call [] cw ?_ rfl ?_ ?_ | refine Exec.call [] cw ?_ rfl ?_ ?_); (focus simp [-getElem?_pos, z0]); (focus simp [-getElem?_pos, z0, z1, z2, z0]); simp [-getElem?_pos, z0, z1, z2, z0]
    repeat (first | (with_reducible first | refine zq1 fun _ => ?_ | refine zq2 fun _ => ?_ | refine zq3 ?_) | ((first | refine zq4 ?_ | refine zq5 fun _ _ => ?_ | refine zq6 ?_); simp [-getElem?_pos, z0, z1, z2, z0]) | ((first | refine AWp.ret ?_ | refine AWp.skip ?_ | refine AWp.exit ?_); try simp only [thenP]) | (with_reducible refine zq7 ?_; simp only [blockP, thenP, reduceIte]) | with_reducible refine zq8 ?_)
    (first | refine RR.ret ?_ | refine RR.normal ?_); simp [z0]
  rw [fineB, Bool.and_eq_true, decide_eq_true_eq, decide_eq_true_eq] at hf
  have h0 := hf.2
  by_cases g1 : 800 < t.length
  · have g1i : (800 : Int) < t.length := by omega
    refine acallK tabOk Try.func10 rfl rfl (show 7 ≤ _ by decide) rfl fun _ => ?_; simp only [Try.ntmps10]
    repeat (first | (with_reducible first | refine zq1 fun _ => ?_ | refine zq2 fun _ => ?_ | refine zq3 ?_) | ((first | refine zq4 ?_ | refine zq5 fun _ _ => ?_ | refine zq6 ?_); simp [-getElem?_pos, z0, z1, z2, z0]) | ((first | refine AWp.ret ?_ | refine AWp.skip ?_ | refine AWp.exit ?_); try simp only [thenP]) | (with_reducible refine zq7 ?_; simp only [blockP, thenP, reduceIte]) | with_reducible refine zq8 ?_)
    (first | refine Exec0.call [] cf ?_ rfl ?_ ?_ | refine Exec.call [] cf ?_ rfl ?_ ?_); (focus simp [-getElem?_pos, g1, g1i]); (focus simp [-getElem?_pos, z0, z1, z2, g1, g1i]); simp [-getElem?_pos, z0, z1, z2, g1, g1i]
    repeat (first | (with_reducible first | refine zq1 fun _ => ?_ | refine zq2 fun _ => ?_ | refine zq3 ?_) | ((first | refine zq4 ?_ | refine zq5 fun _ _ => ?_ | refine zq6 ?_); simp [-getElem?_pos, z0, z1, z2, g1, g1i]) | ((first | refine AWp.ret ?_ | refine AWp.skip ?_ | refine AWp.exit ?_); try simp only [thenP]) | (with_reducible refine zq7 ?_; simp only [blockP, thenP, reduceIte]) | with_reducible refine zq8 ?_)
    (first | refine Exec0.call [] cw ?_ rfl ?_ ?_ | refine Exec.call [] cw ?_ rfl ?_ ?_); (focus simp [-getElem?_pos, z0]); (focus simp [-getElem?_pos, z0, z1, z2, z0]); simp [-getElem?_pos, z0, z1, z2, z0]
    repeat (first | (with_reducible first | refine zq1 fun _ => ?_ | refine zq2 fun _ => ?_ | refine zq3 ?_) | ((first | refine zq4 ?_ | refine zq5 fun _ _ => ?_ | refine zq6 ?_); simp [-getElem?_pos, z0, z1, z2, z0]) | ((first | refine AWp.ret ?_ | refine AWp.skip ?_ | refine AWp.exit ?_); try simp only [thenP]) | (with_reducible refine zq7 ?_; simp only [blockP, thenP, reduceIte]) | with_reducible refine zq8 ?_)
    (first | refine RR.ret ?_ | refine RR.normal ?_); simp [z0]
  have g1i : ¬ (800 : Int) < t.length := by omega
  obtain ⟨hb, hes⟩ := chkOk h0
  have gg := goodE (e := g) (by simp at hes; exact hes.2)
  have ge := goodE (e := e) (by simp at hes; exact hes.1)
  have hl := hb.all
  obtain ⟨ed, eb⟩ := e
  obtain ⟨gd, gb⟩ := g
  have q1 := ge.d0; have q2 := ge.d1; have q3 := ge.b0; have q4 := ge.b1
  have p1 := gg.d0; have p2 := gg.d1; have p3 := gg.b0; have p4 := gg.b1
  simp only at q1 q2 q3 q4 p1 p2 p3 p4
  have v0 : IntKind.i64.wrap (k0 : Int) = (k0 : Int) := wrap64_in (by omega)
  have v1 : IntKind.i64.wrap (k1 : Int) = (k1 : Int) := wrap64_in (by omega)
  have v2 : IntKind.i64.wrap (u0 : Int) = (u0 : Int) := wrap64_in (by omega)
  have v3 : IntKind.i64.wrap (u1 : Int) = (u1 : Int) := wrap64_in (by omega)
  have v4 : IntKind.i64.wrap (ed - k0) = ed - k0 := wrap64_in (by omega)
  have v5 : IntKind.i64.wrap (eb - k1) = eb - k1 := wrap64_in (by omega)
  have v6 : IntKind.i64.wrap (gd + u0) = gd + u0 := wrap64_in (by omega)
  have v7 : IntKind.i64.wrap (gb + u1) = gb + u1 := wrap64_in (by omega)
  obtain ⟨xd, hxd⟩ : ∃ xd, xd = max 0 (ed - k0) := ⟨_, rfl⟩
  obtain ⟨xb, hxb⟩ : ∃ xb, xb = max 0 (eb - k1) := ⟨_, rfl⟩
  obtain ⟨yd, hyd⟩ : ∃ yd, yd = min 100 (gd + u0) := ⟨_, rfl⟩
  obtain ⟨yb, hyb⟩ : ∃ yb, yb = min 6 (gb + u1) := ⟨_, rfl⟩
  have m1 : (if (k0 : Int) < ed then ed - k0 else 0) = xd := by rw [hxd]; split <;> omega
  have m2 : (if (k1 : Int) < eb then eb - k1 else 0) = xb := by rw [hxb]; split <;> omega
  have m3 : (if gd + u0 < 100 then gd + u0 else 100) = yd := by rw [hyd]; split <;> omega
  have m4 : (if gb + u1 < 6 then gb + u1 else 6) = yb := by rw [hyb]; split <;> omega
  have gx : GoodE ⟨xd, xb⟩ := ⟨by simp only; omega, by simp only; omega, by simp only; omega, by simp only; omega⟩
  have gy : GoodE ⟨yd, yb⟩ := ⟨by simp only; omega, by simp only; omega, by simp only; omega, by simp only; omega⟩
  have kx : keenB ⟨xd, xb⟩ ⟨ed, eb⟩ = true := by simp only [keenB, Bool.and_eq_true, decide_eq_true_eq]; omega
  have ky : keenB ⟨gd, gb⟩ ⟨yd, yb⟩ = true := by simp only [keenB, Bool.and_eq_true, decide_eq_true_eq]; omega
  have cx := edge_c xd xb
  have cy := edge_c yd yb
  have hcx := (chk_mk h0 (okE_mk gx) (okE_mk gg)).1
  have hcy := (chk_mk h0 (okE_mk ge) (okE_mk gy)).1
  have ca := after_c l ⟨ed, eb⟩ t (by omega)
  have ca2 := after_c l ⟨xd, xb⟩ t (by omega)
  have cn1 := fewest_c h0
  have cn2 := fewest_c hcx
  have cn3 := fewest_c hcy
  have le1 : fewN l ⟨gd, gb⟩ ⟨xd, xb⟩ ≤ fewN l ⟨gd, gb⟩ ⟨ed, eb⟩ := few_le2 h0 hcx fun t a hr ha => by
    obtain ⟨b, hb, hba⟩ := run_keen t kx hr
    exact ⟨b, hb, keen_trans hba ha⟩
  have le2 : fewN l ⟨yd, yb⟩ ⟨ed, eb⟩ ≤ fewN l ⟨gd, gb⟩ ⟨ed, eb⟩ := few_le2 h0 hcy fun t a hr ha => ⟨a, hr, keen_trans ha ky⟩
  have cz := fine_c (l ++ [s]) ⟨ed, eb⟩ ⟨gd, gb⟩
  have hkeep : aftE l ⟨ed, eb⟩ t = 0 → aftE l ⟨xd, xb⟩ t = 0 ∧ keenB (aftR l ⟨xd, xb⟩ t) (aftR l ⟨ed, eb⟩ t) = true := fun h => aft_keen h0 gx kx h
  have ck := refKeen_c (aftR l ⟨xd, xb⟩ t) (aftR l ⟨ed, eb⟩ t)
  generalize hN1 : fewN l ⟨gd, gb⟩ ⟨ed, eb⟩ = N1 at *
  generalize fewN l ⟨gd, gb⟩ ⟨xd, xb⟩ = N2 at *
  generalize fewN l ⟨yd, yb⟩ ⟨ed, eb⟩ = N3 at *
  have le1n : ¬ N1 < N2 := by omega
  have le2n : ¬ N1 < N3 := by omega
  have le1i : ¬ (N1 : Int) < N2 := by omega
  have le2i : ¬ (N1 : Int) < N3 := by omega
  have h3 : (∀ (r : List Dat), r ∈ hsRows l → r.length = 3) = True := eq_true (by
    intro r hr
    obtain ⟨q, -, rfl⟩ := List.mem_map.1 hr
    rfl)
  have f1 : fitsB l.length 24 = true := fitsB_small (by omega) (by omega)
  have f2 : fitsB (l.length + 1) 24 = true := fitsB_small (by omega) (by omega)
  have hz : boxD (l ++ [s]) = .list (hsRows l ++ [[iD s.grit, iD s.cut, iD s.burr]]) := by simp [hsRows]
  have hfew : fineB (l ++ [s]) ⟨ed, eb⟩ ⟨gd, gb⟩ = true → ∃ N4, N4 ≤ N1 ∧ ACall Try.prog 44 [boxD (l ++ [s]), edgD ⟨ed, eb⟩, edgD ⟨gd, gb⟩] (.tup [iD (N4 : Nat), bD true]) := fun h => by
    rw [fineB, Bool.and_eq_true, decide_eq_true_eq, decide_eq_true_eq] at h
    refine ⟨_, ?_, fewest_c h.2⟩
    rw [← hN1]
    exact few_le2 h0 h.2 fun t a hr ha => ⟨a, run_more s t hr, ha⟩
  have cb := best_c l ⟨ed, eb⟩ ⟨gd, gb⟩
  have hbest : ∀ k, needN l ⟨gd, gb⟩ ⟨ed, eb⟩ = some k → aftE l ⟨xd, xb⟩ (bestO l ⟨ed, eb⟩ ⟨gd, gb⟩) = 0 ∧ keenB (aftR l ⟨xd, xb⟩ (bestO l ⟨ed, eb⟩ ⟨gd, gb⟩)) ⟨gd, gb⟩ = true := fun k hk => by
    obtain ⟨h1, h2⟩ := aft_keen h0 gx kx (best_of h0 hk).aft
    exact ⟨h1, keen_trans h2 (best_of h0 hk).keen⟩
  have cs := after_c l ⟨xd, xb⟩ (bestO l ⟨ed, eb⟩ ⟨gd, gb⟩) (best_len l _ _)
  have ck3 := refKeen_c (aftR l ⟨xd, xb⟩ (bestO l ⟨ed, eb⟩ ⟨gd, gb⟩)) ⟨gd, gb⟩
  have hreach : reachE l ⟨gd, gb⟩ ⟨ed, eb⟩ = if needN l ⟨gd, gb⟩ ⟨ed, eb⟩ = none then 13 else 0 := by
    rw [reachE, if_pos h0]
    cases needN l ⟨gd, gb⟩ ⟨ed, eb⟩ <;> rfl
  rw [hz] at cz hfew
  generalize aftR l ⟨xd, xb⟩ (bestO l ⟨ed, eb⟩ ⟨gd, gb⟩) = w at *
  obtain ⟨w0, wq⟩ := w
  by_cases ha : aftE l ⟨ed, eb⟩ t = 0
  · obtain ⟨a1, a2⟩ := hkeep ha
    rw [ha] at ca
    rw [a1] at ca2
    rw [a2] at ck
    generalize aftR l ⟨ed, eb⟩ t = a at *
    generalize aftR l ⟨xd, xb⟩ t = b at *
    obtain ⟨a0, aq⟩ := a
    obtain ⟨b0, bq⟩ := b
    rcases hfz : fineB (l ++ [s]) ⟨ed, eb⟩ ⟨gd, gb⟩ <;> rw [hfz] at cz
    · cases hk : needN l ⟨gd, gb⟩ ⟨ed, eb⟩ with
      | none =>
        rw [hreach, hk, if_pos rfl] at cb
        refine acallK tabOk Try.func10 rfl rfl (show 7 ≤ _ by decide) rfl fun _ => ?_; simp only [Try.ntmps10]
        repeat (first | (with_reducible first | refine zq1 fun _ => ?_ | refine zq2 fun _ => ?_ | refine zq3 ?_) | ((first | refine zq4 ?_ | refine zq5 fun _ _ => ?_ | refine zq6 ?_); simp [-getElem?_pos, z0, z1, z2, z0]) | ((first | refine AWp.ret ?_ | refine AWp.skip ?_ | refine AWp.exit ?_); try simp only [thenP]) | (with_reducible refine zq7 ?_; simp only [blockP, thenP, reduceIte]) | with_reducible refine zq8 ?_)
        (first | refine Exec0.call [] cf ?_ rfl ?_ ?_ | refine Exec.call [] cf ?_ rfl ?_ ?_); (focus simp [-getElem?_pos, g1, g1i]); (focus simp [-getElem?_pos, z0, z1, z2, g1, g1i]); simp [-getElem?_pos, z0, z1, z2, g1, g1i]
        repeat (first | (with_reducible first | refine zq1 fun _ => ?_ | refine zq2 fun _ => ?_ | refine zq3 ?_) | ((first | refine zq4 ?_ | refine zq5 fun _ _ => ?_ | refine zq6 ?_); simp [-getElem?_pos, z0, z1, z2, g1, g1i, v0, v1, v2, v3, v4, v5, v6, v7, m1, m2]) | ((first | refine AWp.ret ?_ | refine AWp.skip ?_ | refine AWp.exit ?_); try simp only [thenP]) | (with_reducible refine zq7 ?_; simp only [blockP, thenP, reduceIte]) | with_reducible refine zq8 ?_)
        (first | refine Exec0.call [] cx ?_ rfl ?_ ?_ | refine Exec.call [] cx ?_ rfl ?_ ?_); (focus simp [-getElem?_pos, z0]); (focus simp [-getElem?_pos, z0, z1, z2, z0]); simp [-getElem?_pos, z0, z1, z2, z0]
        repeat (first | (with_reducible first | refine zq1 fun _ => ?_ | refine zq2 fun _ => ?_ | refine zq3 ?_) | ((first | refine zq4 ?_ | refine zq5 fun _ _ => ?_ | refine zq6 ?_); simp [-getElem?_pos, z0, z1, z2, v0, v1, v2, v3, v4, v5, v6, v7, m3, m4]) | ((first | refine AWp.ret ?_ | refine AWp.skip ?_ | refine AWp.exit ?_); try simp only [thenP]) | (with_reducible refine zq7 ?_; simp only [blockP, thenP, reduceIte]) | with_reducible refine zq8 ?_)
        (first | refine Exec0.call [] cy ?_ rfl ?_ ?_ | refine Exec.call [] cy ?_ rfl ?_ ?_); (focus simp [-getElem?_pos, z0]); (focus simp [-getElem?_pos, z0, z1, z2, z0]); simp [-getElem?_pos, z0, z1, z2, z0]
        repeat (first | (with_reducible first | refine zq1 fun _ => ?_ | refine zq2 fun _ => ?_ | refine zq3 ?_) | ((first | refine zq4 ?_ | refine zq5 fun _ _ => ?_ | refine zq6 ?_); simp [-getElem?_pos, z0, z1, z2, z0]) | ((first | refine AWp.ret ?_ | refine AWp.skip ?_ | refine AWp.exit ?_); try simp only [thenP]) | (with_reducible refine zq7 ?_; simp only [blockP, thenP, reduceIte]) | with_reducible refine zq8 ?_)
        (first | refine Exec0.call [] ca ?_ rfl ?_ ?_ | refine Exec.call [] ca ?_ rfl ?_ ?_); (focus simp [-getElem?_pos, z0]); (focus simp [-getElem?_pos, z0, z1, z2, z0]); simp [-getElem?_pos, z0, z1, z2, z0]
        repeat (first | (with_reducible first | refine zq1 fun _ => ?_ | refine zq2 fun _ => ?_ | refine zq3 ?_) | ((first | refine zq4 ?_ | refine zq5 fun _ _ => ?_ | refine zq6 ?_); simp [-getElem?_pos, z0, z1, z2, z0]) | ((first | refine AWp.ret ?_ | refine AWp.skip ?_ | refine AWp.exit ?_); try simp only [thenP]) | (with_reducible refine zq7 ?_; simp only [blockP, thenP, reduceIte]) | with_reducible refine zq8 ?_)
        (first | refine Exec0.call [] ca2 ?_ rfl ?_ ?_ | refine Exec.call [] ca2 ?_ rfl ?_ ?_); (focus simp [-getElem?_pos, z0]); (focus simp [-getElem?_pos, z0, z1, z2, z0]); simp [-getElem?_pos, z0, z1, z2, z0]
        repeat (first | (with_reducible first | refine zq1 fun _ => ?_ | refine zq2 fun _ => ?_ | refine zq3 ?_) | ((first | refine zq4 ?_ | refine zq5 fun _ _ => ?_ | refine zq6 ?_); simp [-getElem?_pos, z0, z1, z2, z0]) | ((first | refine AWp.ret ?_ | refine AWp.skip ?_ | refine AWp.exit ?_); try simp only [thenP]) | (with_reducible refine zq7 ?_; simp only [blockP, thenP, reduceIte]) | with_reducible refine zq8 ?_)
        (first | refine Exec0.call [] ck ?_ rfl ?_ ?_ | refine Exec.call [] ck ?_ rfl ?_ ?_); (focus simp [-getElem?_pos, z0]); (focus simp [-getElem?_pos, z0, z1, z2, z0]); simp [-getElem?_pos, z0, z1, z2, z0]
        repeat (first | (with_reducible first | refine zq1 fun _ => ?_ | refine zq2 fun _ => ?_ | refine zq3 ?_) | ((first | refine zq4 ?_ | refine zq5 fun _ _ => ?_ | refine zq6 ?_); simp [-getElem?_pos, z0, z1, z2, z0]) | ((first | refine AWp.ret ?_ | refine AWp.skip ?_ | refine AWp.exit ?_); try simp only [thenP]) | (with_reducible refine zq7 ?_; simp only [blockP, thenP, reduceIte]) | with_reducible refine zq8 ?_)
        (first | refine Exec0.call [] cn1 ?_ rfl ?_ ?_ | refine Exec.call [] cn1 ?_ rfl ?_ ?_); (focus simp [-getElem?_pos, z0]); (focus simp [-getElem?_pos, z0, z1, z2, z0]); simp [-getElem?_pos, z0, z1, z2, z0]
        repeat (first | (with_reducible first | refine zq1 fun _ => ?_ | refine zq2 fun _ => ?_ | refine zq3 ?_) | ((first | refine zq4 ?_ | refine zq5 fun _ _ => ?_ | refine zq6 ?_); simp [-getElem?_pos, z0, z1, z2, z0]) | ((first | refine AWp.ret ?_ | refine AWp.skip ?_ | refine AWp.exit ?_); try simp only [thenP]) | (with_reducible refine zq7 ?_; simp only [blockP, thenP, reduceIte]) | with_reducible refine zq8 ?_)
        (first | refine Exec0.call [] cn2 ?_ rfl ?_ ?_ | refine Exec.call [] cn2 ?_ rfl ?_ ?_); (focus simp [-getElem?_pos, z0]); (focus simp [-getElem?_pos, z0, z1, z2, z0]); simp [-getElem?_pos, z0, z1, z2, z0]
        repeat (first | (with_reducible first | refine zq1 fun _ => ?_ | refine zq2 fun _ => ?_ | refine zq3 ?_) | ((first | refine zq4 ?_ | refine zq5 fun _ _ => ?_ | refine zq6 ?_); simp [-getElem?_pos, z0, z1, z2, z0]) | ((first | refine AWp.ret ?_ | refine AWp.skip ?_ | refine AWp.exit ?_); try simp only [thenP]) | (with_reducible refine zq7 ?_; simp only [blockP, thenP, reduceIte]) | with_reducible refine zq8 ?_)
        (first | refine Exec0.call [] cn3 ?_ rfl ?_ ?_ | refine Exec.call [] cn3 ?_ rfl ?_ ?_); (focus simp [-getElem?_pos, le1n, le2n, le1i, le2i]); (focus simp [-getElem?_pos, z0, z1, z2, le1n, le2n, le1i, le2i]); simp [-getElem?_pos, z0, z1, z2, le1n, le2n, le1i, le2i]
        repeat (first | (with_reducible first | refine zq1 fun _ => ?_ | refine zq2 fun _ => ?_ | refine zq3 ?_) | ((first | refine zq4 ?_ | refine zq5 fun _ _ => ?_ | refine zq6 ?_); simp [-getElem?_pos, z0, z1, z2, le1n, le2n, le1i, le2i, h3, f1, f2]) | ((first | refine AWp.ret ?_ | refine AWp.skip ?_ | refine AWp.exit ?_); try simp only [thenP]) | (with_reducible refine zq7 ?_; simp only [blockP, thenP, reduceIte]) | with_reducible refine zq8 ?_)
        (first | refine Exec0.call [134] cz ?_ rfl ?_ ?_ | refine Exec.call [134] cz ?_ rfl ?_ ?_); (focus simp [-getElem?_pos, z0]); (focus simp [-getElem?_pos, z0, z1, z2, z0]); simp [-getElem?_pos, z0, z1, z2, z0]
        repeat (first | (with_reducible first | refine zq1 fun _ => ?_ | refine zq2 fun _ => ?_ | refine zq3 ?_) | ((first | refine zq4 ?_ | refine zq5 fun _ _ => ?_ | refine zq6 ?_); simp [-getElem?_pos, z0, z1, z2, z0]) | ((first | refine AWp.ret ?_ | refine AWp.skip ?_ | refine AWp.exit ?_); try simp only [thenP]) | (with_reducible refine zq7 ?_; simp only [blockP, thenP, reduceIte]) | with_reducible refine zq8 ?_)
        (first | refine Exec0.call [] cb ?_ rfl ?_ ?_ | refine Exec.call [] cb ?_ rfl ?_ ?_); (focus simp [-getElem?_pos, z0]); (focus simp [-getElem?_pos, z0, z1, z2, z0]); simp [-getElem?_pos, z0, z1, z2, z0]
        repeat (first | (with_reducible first | refine zq1 fun _ => ?_ | refine zq2 fun _ => ?_ | refine zq3 ?_) | ((first | refine zq4 ?_ | refine zq5 fun _ _ => ?_ | refine zq6 ?_); simp [-getElem?_pos, z0, z1, z2, z0]) | ((first | refine AWp.ret ?_ | refine AWp.skip ?_ | refine AWp.exit ?_); try simp only [thenP]) | (with_reducible refine zq7 ?_; simp only [blockP, thenP, reduceIte]) | with_reducible refine zq8 ?_)
        (first | refine Exec0.call [] cw ?_ rfl ?_ ?_ | refine Exec.call [] cw ?_ rfl ?_ ?_); (focus simp [-getElem?_pos, z0]); (focus simp [-getElem?_pos, z0, z1, z2, z0]); simp [-getElem?_pos, z0, z1, z2, z0]
        repeat (first | (with_reducible first | refine zq1 fun _ => ?_ | refine zq2 fun _ => ?_ | refine zq3 ?_) | ((first | refine zq4 ?_ | refine zq5 fun _ _ => ?_ | refine zq6 ?_); simp [-getElem?_pos, z0, z1, z2, z0]) | ((first | refine AWp.ret ?_ | refine AWp.skip ?_ | refine AWp.exit ?_); try simp only [thenP]) | (with_reducible refine zq7 ?_; simp only [blockP, thenP, reduceIte]) | with_reducible refine zq8 ?_)
        (first | refine RR.ret ?_ | refine RR.normal ?_); simp [z0]
      | some k =>
        rw [hreach, hk, if_neg (by simp)] at cb
        obtain ⟨e1, e2⟩ := hbest k hk
        rw [e1] at cs
        rw [e2] at ck3
        refine acallK tabOk Try.func10 rfl rfl (show 7 ≤ _ by decide) rfl fun _ => ?_; simp only [Try.ntmps10]
        repeat (first | (with_reducible first | refine zq1 fun _ => ?_ | refine zq2 fun _ => ?_ | refine zq3 ?_) | ((first | refine zq4 ?_ | refine zq5 fun _ _ => ?_ | refine zq6 ?_); simp [-getElem?_pos, z0, z1, z2, z0]) | ((first | refine AWp.ret ?_ | refine AWp.skip ?_ | refine AWp.exit ?_); try simp only [thenP]) | (with_reducible refine zq7 ?_; simp only [blockP, thenP, reduceIte]) | with_reducible refine zq8 ?_)
        (first | refine Exec0.call [] cf ?_ rfl ?_ ?_ | refine Exec.call [] cf ?_ rfl ?_ ?_); (focus simp [-getElem?_pos, g1, g1i]); (focus simp [-getElem?_pos, z0, z1, z2, g1, g1i]); simp [-getElem?_pos, z0, z1, z2, g1, g1i]
        repeat (first | (with_reducible first | refine zq1 fun _ => ?_ | refine zq2 fun _ => ?_ | refine zq3 ?_) | ((first | refine zq4 ?_ | refine zq5 fun _ _ => ?_ | refine zq6 ?_); simp [-getElem?_pos, z0, z1, z2, g1, g1i, v0, v1, v2, v3, v4, v5, v6, v7, m1, m2]) | ((first | refine AWp.ret ?_ | refine AWp.skip ?_ | refine AWp.exit ?_); try simp only [thenP]) | (with_reducible refine zq7 ?_; simp only [blockP, thenP, reduceIte]) | with_reducible refine zq8 ?_)
        (first | refine Exec0.call [] cx ?_ rfl ?_ ?_ | refine Exec.call [] cx ?_ rfl ?_ ?_); (focus simp [-getElem?_pos, z0]); (focus simp [-getElem?_pos, z0, z1, z2, z0]); simp [-getElem?_pos, z0, z1, z2, z0]
        repeat (first | (with_reducible first | refine zq1 fun _ => ?_ | refine zq2 fun _ => ?_ | refine zq3 ?_) | ((first | refine zq4 ?_ | refine zq5 fun _ _ => ?_ | refine zq6 ?_); simp [-getElem?_pos, z0, z1, z2, v0, v1, v2, v3, v4, v5, v6, v7, m3, m4]) | ((first | refine AWp.ret ?_ | refine AWp.skip ?_ | refine AWp.exit ?_); try simp only [thenP]) | (with_reducible refine zq7 ?_; simp only [blockP, thenP, reduceIte]) | with_reducible refine zq8 ?_)
        (first | refine Exec0.call [] cy ?_ rfl ?_ ?_ | refine Exec.call [] cy ?_ rfl ?_ ?_); (focus simp [-getElem?_pos, z0]); (focus simp [-getElem?_pos, z0, z1, z2, z0]); simp [-getElem?_pos, z0, z1, z2, z0]
        repeat (first | (with_reducible first | refine zq1 fun _ => ?_ | refine zq2 fun _ => ?_ | refine zq3 ?_) | ((first | refine zq4 ?_ | refine zq5 fun _ _ => ?_ | refine zq6 ?_); simp [-getElem?_pos, z0, z1, z2, z0]) | ((first | refine AWp.ret ?_ | refine AWp.skip ?_ | refine AWp.exit ?_); try simp only [thenP]) | (with_reducible refine zq7 ?_; simp only [blockP, thenP, reduceIte]) | with_reducible refine zq8 ?_)
        (first | refine Exec0.call [] ca ?_ rfl ?_ ?_ | refine Exec.call [] ca ?_ rfl ?_ ?_); (focus simp [-getElem?_pos, z0]); (focus simp [-getElem?_pos, z0, z1, z2, z0]); simp [-getElem?_pos, z0, z1, z2, z0]
        repeat (first | (with_reducible first | refine zq1 fun _ => ?_ | refine zq2 fun _ => ?_ | refine zq3 ?_) | ((first | refine zq4 ?_ | refine zq5 fun _ _ => ?_ | refine zq6 ?_); simp [-getElem?_pos, z0, z1, z2, z0]) | ((first | refine AWp.ret ?_ | refine AWp.skip ?_ | refine AWp.exit ?_); try simp only [thenP]) | (with_reducible refine zq7 ?_; simp only [blockP, thenP, reduceIte]) | with_reducible refine zq8 ?_)
        (first | refine Exec0.call [] ca2 ?_ rfl ?_ ?_ | refine Exec.call [] ca2 ?_ rfl ?_ ?_); (focus simp [-getElem?_pos, z0]); (focus simp [-getElem?_pos, z0, z1, z2, z0]); simp [-getElem?_pos, z0, z1, z2, z0]
        repeat (first | (with_reducible first | refine zq1 fun _ => ?_ | refine zq2 fun _ => ?_ | refine zq3 ?_) | ((first | refine zq4 ?_ | refine zq5 fun _ _ => ?_ | refine zq6 ?_); simp [-getElem?_pos, z0, z1, z2, z0]) | ((first | refine AWp.ret ?_ | refine AWp.skip ?_ | refine AWp.exit ?_); try simp only [thenP]) | (with_reducible refine zq7 ?_; simp only [blockP, thenP, reduceIte]) | with_reducible refine zq8 ?_)
        (first | refine Exec0.call [] ck ?_ rfl ?_ ?_ | refine Exec.call [] ck ?_ rfl ?_ ?_); (focus simp [-getElem?_pos, z0]); (focus simp [-getElem?_pos, z0, z1, z2, z0]); simp [-getElem?_pos, z0, z1, z2, z0]
        repeat (first | (with_reducible first | refine zq1 fun _ => ?_ | refine zq2 fun _ => ?_ | refine zq3 ?_) | ((first | refine zq4 ?_ | refine zq5 fun _ _ => ?_ | refine zq6 ?_); simp [-getElem?_pos, z0, z1, z2, z0]) | ((first | refine AWp.ret ?_ | refine AWp.skip ?_ | refine AWp.exit ?_); try simp only [thenP]) | (with_reducible refine zq7 ?_; simp only [blockP, thenP, reduceIte]) | with_reducible refine zq8 ?_)
        (first | refine Exec0.call [] cn1 ?_ rfl ?_ ?_ | refine Exec.call [] cn1 ?_ rfl ?_ ?_); (focus simp [-getElem?_pos, z0]); (focus simp [-getElem?_pos, z0, z1, z2, z0]); simp [-getElem?_pos, z0, z1, z2, z0]
        repeat (first | (with_reducible first | refine zq1 fun _ => ?_ | refine zq2 fun _ => ?_ | refine zq3 ?_) | ((first | refine zq4 ?_ | refine zq5 fun _ _ => ?_ | refine zq6 ?_); simp [-getElem?_pos, z0, z1, z2, z0]) | ((first | refine AWp.ret ?_ | refine AWp.skip ?_ | refine AWp.exit ?_); try simp only [thenP]) | (with_reducible refine zq7 ?_; simp only [blockP, thenP, reduceIte]) | with_reducible refine zq8 ?_)
        (first | refine Exec0.call [] cn2 ?_ rfl ?_ ?_ | refine Exec.call [] cn2 ?_ rfl ?_ ?_); (focus simp [-getElem?_pos, z0]); (focus simp [-getElem?_pos, z0, z1, z2, z0]); simp [-getElem?_pos, z0, z1, z2, z0]
        repeat (first | (with_reducible first | refine zq1 fun _ => ?_ | refine zq2 fun _ => ?_ | refine zq3 ?_) | ((first | refine zq4 ?_ | refine zq5 fun _ _ => ?_ | refine zq6 ?_); simp [-getElem?_pos, z0, z1, z2, z0]) | ((first | refine AWp.ret ?_ | refine AWp.skip ?_ | refine AWp.exit ?_); try simp only [thenP]) | (with_reducible refine zq7 ?_; simp only [blockP, thenP, reduceIte]) | with_reducible refine zq8 ?_)
        (first | refine Exec0.call [] cn3 ?_ rfl ?_ ?_ | refine Exec.call [] cn3 ?_ rfl ?_ ?_); (focus simp [-getElem?_pos, le1n, le2n, le1i, le2i]); (focus simp [-getElem?_pos, z0, z1, z2, le1n, le2n, le1i, le2i]); simp [-getElem?_pos, z0, z1, z2, le1n, le2n, le1i, le2i]
        repeat (first | (with_reducible first | refine zq1 fun _ => ?_ | refine zq2 fun _ => ?_ | refine zq3 ?_) | ((first | refine zq4 ?_ | refine zq5 fun _ _ => ?_ | refine zq6 ?_); simp [-getElem?_pos, z0, z1, z2, le1n, le2n, le1i, le2i, h3, f1, f2]) | ((first | refine AWp.ret ?_ | refine AWp.skip ?_ | refine AWp.exit ?_); try simp only [thenP]) | (with_reducible refine zq7 ?_; simp only [blockP, thenP, reduceIte]) | with_reducible refine zq8 ?_)
        (first | refine Exec0.call [134] cz ?_ rfl ?_ ?_ | refine Exec.call [134] cz ?_ rfl ?_ ?_); (focus simp [-getElem?_pos, z0]); (focus simp [-getElem?_pos, z0, z1, z2, z0]); simp [-getElem?_pos, z0, z1, z2, z0]
        repeat (first | (with_reducible first | refine zq1 fun _ => ?_ | refine zq2 fun _ => ?_ | refine zq3 ?_) | ((first | refine zq4 ?_ | refine zq5 fun _ _ => ?_ | refine zq6 ?_); simp [-getElem?_pos, z0, z1, z2, z0]) | ((first | refine AWp.ret ?_ | refine AWp.skip ?_ | refine AWp.exit ?_); try simp only [thenP]) | (with_reducible refine zq7 ?_; simp only [blockP, thenP, reduceIte]) | with_reducible refine zq8 ?_)
        (first | refine Exec0.call [] cb ?_ rfl ?_ ?_ | refine Exec.call [] cb ?_ rfl ?_ ?_); (focus simp [-getElem?_pos, z0]); (focus simp [-getElem?_pos, z0, z1, z2, z0]); simp [-getElem?_pos, z0, z1, z2, z0]
        repeat (first | (with_reducible first | refine zq1 fun _ => ?_ | refine zq2 fun _ => ?_ | refine zq3 ?_) | ((first | refine zq4 ?_ | refine zq5 fun _ _ => ?_ | refine zq6 ?_); simp [-getElem?_pos, z0, z1, z2, z0]) | ((first | refine AWp.ret ?_ | refine AWp.skip ?_ | refine AWp.exit ?_); try simp only [thenP]) | (with_reducible refine zq7 ?_; simp only [blockP, thenP, reduceIte]) | with_reducible refine zq8 ?_)
        (first | refine Exec0.call [] cs ?_ rfl ?_ ?_ | refine Exec.call [] cs ?_ rfl ?_ ?_); (focus simp [-getElem?_pos, z0]); (focus simp [-getElem?_pos, z0, z1, z2, z0]); simp [-getElem?_pos, z0, z1, z2, z0]
        repeat (first | (with_reducible first | refine zq1 fun _ => ?_ | refine zq2 fun _ => ?_ | refine zq3 ?_) | ((first | refine zq4 ?_ | refine zq5 fun _ _ => ?_ | refine zq6 ?_); simp [-getElem?_pos, z0, z1, z2, z0]) | ((first | refine AWp.ret ?_ | refine AWp.skip ?_ | refine AWp.exit ?_); try simp only [thenP]) | (with_reducible refine zq7 ?_; simp only [blockP, thenP, reduceIte]) | with_reducible refine zq8 ?_)
        (first | refine Exec0.call [] ck3 ?_ rfl ?_ ?_ | refine Exec.call [] ck3 ?_ rfl ?_ ?_); (focus simp [-getElem?_pos, z0]); (focus simp [-getElem?_pos, z0, z1, z2, z0]); simp [-getElem?_pos, z0, z1, z2, z0]
        repeat (first | (with_reducible first | refine zq1 fun _ => ?_ | refine zq2 fun _ => ?_ | refine zq3 ?_) | ((first | refine zq4 ?_ | refine zq5 fun _ _ => ?_ | refine zq6 ?_); simp [-getElem?_pos, z0, z1, z2, z0]) | ((first | refine AWp.ret ?_ | refine AWp.skip ?_ | refine AWp.exit ?_); try simp only [thenP]) | (with_reducible refine zq7 ?_; simp only [blockP, thenP, reduceIte]) | with_reducible refine zq8 ?_)
        (first | refine Exec0.call [] cw ?_ rfl ?_ ?_ | refine Exec.call [] cw ?_ rfl ?_ ?_); (focus simp [-getElem?_pos, z0]); (focus simp [-getElem?_pos, z0, z1, z2, z0]); simp [-getElem?_pos, z0, z1, z2, z0]
        repeat (first | (with_reducible first | refine zq1 fun _ => ?_ | refine zq2 fun _ => ?_ | refine zq3 ?_) | ((first | refine zq4 ?_ | refine zq5 fun _ _ => ?_ | refine zq6 ?_); simp [-getElem?_pos, z0, z1, z2, z0]) | ((first | refine AWp.ret ?_ | refine AWp.skip ?_ | refine AWp.exit ?_); try simp only [thenP]) | (with_reducible refine zq7 ?_; simp only [blockP, thenP, reduceIte]) | with_reducible refine zq8 ?_)
        (first | refine RR.ret ?_ | refine RR.normal ?_); simp [z0]
    · obtain ⟨N4, le4, cq⟩ := hfew hfz
      have le4n : ¬ N1 < N4 := by omega
      have le4i : ¬ (N1 : Int) < N4 := by omega
      cases hk : needN l ⟨gd, gb⟩ ⟨ed, eb⟩ with
      | none =>
        rw [hreach, hk, if_pos rfl] at cb
        refine acallK tabOk Try.func10 rfl rfl (show 7 ≤ _ by decide) rfl fun _ => ?_; simp only [Try.ntmps10]
        repeat (first | (with_reducible first | refine zq1 fun _ => ?_ | refine zq2 fun _ => ?_ | refine zq3 ?_) | ((first | refine zq4 ?_ | refine zq5 fun _ _ => ?_ | refine zq6 ?_); simp [-getElem?_pos, z0, z1, z2, z0]) | ((first | refine AWp.ret ?_ | refine AWp.skip ?_ | refine AWp.exit ?_); try simp only [thenP]) | (with_reducible refine zq7 ?_; simp only [blockP, thenP, reduceIte]) | with_reducible refine zq8 ?_)
        (first | refine Exec0.call [] cf ?_ rfl ?_ ?_ | refine Exec.call [] cf ?_ rfl ?_ ?_); (focus simp [-getElem?_pos, g1, g1i]); (focus simp [-getElem?_pos, z0, z1, z2, g1, g1i]); simp [-getElem?_pos, z0, z1, z2, g1, g1i]
        repeat (first | (with_reducible first | refine zq1 fun _ => ?_ | refine zq2 fun _ => ?_ | refine zq3 ?_) | ((first | refine zq4 ?_ | refine zq5 fun _ _ => ?_ | refine zq6 ?_); simp [-getElem?_pos, z0, z1, z2, g1, g1i, v0, v1, v2, v3, v4, v5, v6, v7, m1, m2]) | ((first | refine AWp.ret ?_ | refine AWp.skip ?_ | refine AWp.exit ?_); try simp only [thenP]) | (with_reducible refine zq7 ?_; simp only [blockP, thenP, reduceIte]) | with_reducible refine zq8 ?_)
        (first | refine Exec0.call [] cx ?_ rfl ?_ ?_ | refine Exec.call [] cx ?_ rfl ?_ ?_); (focus simp [-getElem?_pos, z0]); (focus simp [-getElem?_pos, z0, z1, z2, z0]); simp [-getElem?_pos, z0, z1, z2, z0]
        repeat (first | (with_reducible first | refine zq1 fun _ => ?_ | refine zq2 fun _ => ?_ | refine zq3 ?_) | ((first | refine zq4 ?_ | refine zq5 fun _ _ => ?_ | refine zq6 ?_); simp [-getElem?_pos, z0, z1, z2, v0, v1, v2, v3, v4, v5, v6, v7, m3, m4]) | ((first | refine AWp.ret ?_ | refine AWp.skip ?_ | refine AWp.exit ?_); try simp only [thenP]) | (with_reducible refine zq7 ?_; simp only [blockP, thenP, reduceIte]) | with_reducible refine zq8 ?_)
        (first | refine Exec0.call [] cy ?_ rfl ?_ ?_ | refine Exec.call [] cy ?_ rfl ?_ ?_); (focus simp [-getElem?_pos, z0]); (focus simp [-getElem?_pos, z0, z1, z2, z0]); simp [-getElem?_pos, z0, z1, z2, z0]
        repeat (first | (with_reducible first | refine zq1 fun _ => ?_ | refine zq2 fun _ => ?_ | refine zq3 ?_) | ((first | refine zq4 ?_ | refine zq5 fun _ _ => ?_ | refine zq6 ?_); simp [-getElem?_pos, z0, z1, z2, z0]) | ((first | refine AWp.ret ?_ | refine AWp.skip ?_ | refine AWp.exit ?_); try simp only [thenP]) | (with_reducible refine zq7 ?_; simp only [blockP, thenP, reduceIte]) | with_reducible refine zq8 ?_)
        (first | refine Exec0.call [] ca ?_ rfl ?_ ?_ | refine Exec.call [] ca ?_ rfl ?_ ?_); (focus simp [-getElem?_pos, z0]); (focus simp [-getElem?_pos, z0, z1, z2, z0]); simp [-getElem?_pos, z0, z1, z2, z0]
        repeat (first | (with_reducible first | refine zq1 fun _ => ?_ | refine zq2 fun _ => ?_ | refine zq3 ?_) | ((first | refine zq4 ?_ | refine zq5 fun _ _ => ?_ | refine zq6 ?_); simp [-getElem?_pos, z0, z1, z2, z0]) | ((first | refine AWp.ret ?_ | refine AWp.skip ?_ | refine AWp.exit ?_); try simp only [thenP]) | (with_reducible refine zq7 ?_; simp only [blockP, thenP, reduceIte]) | with_reducible refine zq8 ?_)
        (first | refine Exec0.call [] ca2 ?_ rfl ?_ ?_ | refine Exec.call [] ca2 ?_ rfl ?_ ?_); (focus simp [-getElem?_pos, z0]); (focus simp [-getElem?_pos, z0, z1, z2, z0]); simp [-getElem?_pos, z0, z1, z2, z0]
        repeat (first | (with_reducible first | refine zq1 fun _ => ?_ | refine zq2 fun _ => ?_ | refine zq3 ?_) | ((first | refine zq4 ?_ | refine zq5 fun _ _ => ?_ | refine zq6 ?_); simp [-getElem?_pos, z0, z1, z2, z0]) | ((first | refine AWp.ret ?_ | refine AWp.skip ?_ | refine AWp.exit ?_); try simp only [thenP]) | (with_reducible refine zq7 ?_; simp only [blockP, thenP, reduceIte]) | with_reducible refine zq8 ?_)
        (first | refine Exec0.call [] ck ?_ rfl ?_ ?_ | refine Exec.call [] ck ?_ rfl ?_ ?_); (focus simp [-getElem?_pos, z0]); (focus simp [-getElem?_pos, z0, z1, z2, z0]); simp [-getElem?_pos, z0, z1, z2, z0]
        repeat (first | (with_reducible first | refine zq1 fun _ => ?_ | refine zq2 fun _ => ?_ | refine zq3 ?_) | ((first | refine zq4 ?_ | refine zq5 fun _ _ => ?_ | refine zq6 ?_); simp [-getElem?_pos, z0, z1, z2, z0]) | ((first | refine AWp.ret ?_ | refine AWp.skip ?_ | refine AWp.exit ?_); try simp only [thenP]) | (with_reducible refine zq7 ?_; simp only [blockP, thenP, reduceIte]) | with_reducible refine zq8 ?_)
        (first | refine Exec0.call [] cn1 ?_ rfl ?_ ?_ | refine Exec.call [] cn1 ?_ rfl ?_ ?_); (focus simp [-getElem?_pos, z0]); (focus simp [-getElem?_pos, z0, z1, z2, z0]); simp [-getElem?_pos, z0, z1, z2, z0]
        repeat (first | (with_reducible first | refine zq1 fun _ => ?_ | refine zq2 fun _ => ?_ | refine zq3 ?_) | ((first | refine zq4 ?_ | refine zq5 fun _ _ => ?_ | refine zq6 ?_); simp [-getElem?_pos, z0, z1, z2, z0]) | ((first | refine AWp.ret ?_ | refine AWp.skip ?_ | refine AWp.exit ?_); try simp only [thenP]) | (with_reducible refine zq7 ?_; simp only [blockP, thenP, reduceIte]) | with_reducible refine zq8 ?_)
        (first | refine Exec0.call [] cn2 ?_ rfl ?_ ?_ | refine Exec.call [] cn2 ?_ rfl ?_ ?_); (focus simp [-getElem?_pos, z0]); (focus simp [-getElem?_pos, z0, z1, z2, z0]); simp [-getElem?_pos, z0, z1, z2, z0]
        repeat (first | (with_reducible first | refine zq1 fun _ => ?_ | refine zq2 fun _ => ?_ | refine zq3 ?_) | ((first | refine zq4 ?_ | refine zq5 fun _ _ => ?_ | refine zq6 ?_); simp [-getElem?_pos, z0, z1, z2, z0]) | ((first | refine AWp.ret ?_ | refine AWp.skip ?_ | refine AWp.exit ?_); try simp only [thenP]) | (with_reducible refine zq7 ?_; simp only [blockP, thenP, reduceIte]) | with_reducible refine zq8 ?_)
        (first | refine Exec0.call [] cn3 ?_ rfl ?_ ?_ | refine Exec.call [] cn3 ?_ rfl ?_ ?_); (focus simp [-getElem?_pos, le1n, le2n, le1i, le2i]); (focus simp [-getElem?_pos, z0, z1, z2, le1n, le2n, le1i, le2i]); simp [-getElem?_pos, z0, z1, z2, le1n, le2n, le1i, le2i]
        repeat (first | (with_reducible first | refine zq1 fun _ => ?_ | refine zq2 fun _ => ?_ | refine zq3 ?_) | ((first | refine zq4 ?_ | refine zq5 fun _ _ => ?_ | refine zq6 ?_); simp [-getElem?_pos, z0, z1, z2, le1n, le2n, le1i, le2i, h3, f1, f2]) | ((first | refine AWp.ret ?_ | refine AWp.skip ?_ | refine AWp.exit ?_); try simp only [thenP]) | (with_reducible refine zq7 ?_; simp only [blockP, thenP, reduceIte]) | with_reducible refine zq8 ?_)
        (first | refine Exec0.call [134] cz ?_ rfl ?_ ?_ | refine Exec.call [134] cz ?_ rfl ?_ ?_); (focus simp [-getElem?_pos, z0]); (focus simp [-getElem?_pos, z0, z1, z2, z0]); simp [-getElem?_pos, z0, z1, z2, z0]
        repeat (first | (with_reducible first | refine zq1 fun _ => ?_ | refine zq2 fun _ => ?_ | refine zq3 ?_) | ((first | refine zq4 ?_ | refine zq5 fun _ _ => ?_ | refine zq6 ?_); simp [-getElem?_pos, z0, z1, z2, z0]) | ((first | refine AWp.ret ?_ | refine AWp.skip ?_ | refine AWp.exit ?_); try simp only [thenP]) | (with_reducible refine zq7 ?_; simp only [blockP, thenP, reduceIte]) | with_reducible refine zq8 ?_)
        (first | refine Exec0.call [134] cq ?_ rfl ?_ ?_ | refine Exec.call [134] cq ?_ rfl ?_ ?_); (focus simp [-getElem?_pos, le4n, le4i]); (focus simp [-getElem?_pos, z0, z1, z2, le4n, le4i]); simp [-getElem?_pos, z0, z1, z2, le4n, le4i]
        repeat (first | (with_reducible first | refine zq1 fun _ => ?_ | refine zq2 fun _ => ?_ | refine zq3 ?_) | ((first | refine zq4 ?_ | refine zq5 fun _ _ => ?_ | refine zq6 ?_); simp [-getElem?_pos, z0, z1, z2, le4n, le4i]) | ((first | refine AWp.ret ?_ | refine AWp.skip ?_ | refine AWp.exit ?_); try simp only [thenP]) | (with_reducible refine zq7 ?_; simp only [blockP, thenP, reduceIte]) | with_reducible refine zq8 ?_)
        (first | refine Exec0.call [] cb ?_ rfl ?_ ?_ | refine Exec.call [] cb ?_ rfl ?_ ?_); (focus simp [-getElem?_pos, z0]); (focus simp [-getElem?_pos, z0, z1, z2, z0]); simp [-getElem?_pos, z0, z1, z2, z0]
        repeat (first | (with_reducible first | refine zq1 fun _ => ?_ | refine zq2 fun _ => ?_ | refine zq3 ?_) | ((first | refine zq4 ?_ | refine zq5 fun _ _ => ?_ | refine zq6 ?_); simp [-getElem?_pos, z0, z1, z2, z0]) | ((first | refine AWp.ret ?_ | refine AWp.skip ?_ | refine AWp.exit ?_); try simp only [thenP]) | (with_reducible refine zq7 ?_; simp only [blockP, thenP, reduceIte]) | with_reducible refine zq8 ?_)
        (first | refine Exec0.call [] cw ?_ rfl ?_ ?_ | refine Exec.call [] cw ?_ rfl ?_ ?_); (focus simp [-getElem?_pos, z0]); (focus simp [-getElem?_pos, z0, z1, z2, z0]); simp [-getElem?_pos, z0, z1, z2, z0]
        repeat (first | (with_reducible first | refine zq1 fun _ => ?_ | refine zq2 fun _ => ?_ | refine zq3 ?_) | ((first | refine zq4 ?_ | refine zq5 fun _ _ => ?_ | refine zq6 ?_); simp [-getElem?_pos, z0, z1, z2, z0]) | ((first | refine AWp.ret ?_ | refine AWp.skip ?_ | refine AWp.exit ?_); try simp only [thenP]) | (with_reducible refine zq7 ?_; simp only [blockP, thenP, reduceIte]) | with_reducible refine zq8 ?_)
        (first | refine RR.ret ?_ | refine RR.normal ?_); simp [z0]
      | some k =>
        rw [hreach, hk, if_neg (by simp)] at cb
        obtain ⟨e1, e2⟩ := hbest k hk
        rw [e1] at cs
        rw [e2] at ck3
        refine acallK tabOk Try.func10 rfl rfl (show 7 ≤ _ by decide) rfl fun _ => ?_; simp only [Try.ntmps10]
        repeat (first | (with_reducible first | refine zq1 fun _ => ?_ | refine zq2 fun _ => ?_ | refine zq3 ?_) | ((first | refine zq4 ?_ | refine zq5 fun _ _ => ?_ | refine zq6 ?_); simp [-getElem?_pos, z0, z1, z2, z0]) | ((first | refine AWp.ret ?_ | refine AWp.skip ?_ | refine AWp.exit ?_); try simp only [thenP]) | (with_reducible refine zq7 ?_; simp only [blockP, thenP, reduceIte]) | with_reducible refine zq8 ?_)
        (first | refine Exec0.call [] cf ?_ rfl ?_ ?_ | refine Exec.call [] cf ?_ rfl ?_ ?_); (focus simp [-getElem?_pos, g1, g1i]); (focus simp [-getElem?_pos, z0, z1, z2, g1, g1i]); simp [-getElem?_pos, z0, z1, z2, g1, g1i]
        repeat (first | (with_reducible first | refine zq1 fun _ => ?_ | refine zq2 fun _ => ?_ | refine zq3 ?_) | ((first | refine zq4 ?_ | refine zq5 fun _ _ => ?_ | refine zq6 ?_); simp [-getElem?_pos, z0, z1, z2, g1, g1i, v0, v1, v2, v3, v4, v5, v6, v7, m1, m2]) | ((first | refine AWp.ret ?_ | refine AWp.skip ?_ | refine AWp.exit ?_); try simp only [thenP]) | (with_reducible refine zq7 ?_; simp only [blockP, thenP, reduceIte]) | with_reducible refine zq8 ?_)
        (first | refine Exec0.call [] cx ?_ rfl ?_ ?_ | refine Exec.call [] cx ?_ rfl ?_ ?_); (focus simp [-getElem?_pos, z0]); (focus simp [-getElem?_pos, z0, z1, z2, z0]); simp [-getElem?_pos, z0, z1, z2, z0]
        repeat (first | (with_reducible first | refine zq1 fun _ => ?_ | refine zq2 fun _ => ?_ | refine zq3 ?_) | ((first | refine zq4 ?_ | refine zq5 fun _ _ => ?_ | refine zq6 ?_); simp [-getElem?_pos, z0, z1, z2, v0, v1, v2, v3, v4, v5, v6, v7, m3, m4]) | ((first | refine AWp.ret ?_ | refine AWp.skip ?_ | refine AWp.exit ?_); try simp only [thenP]) | (with_reducible refine zq7 ?_; simp only [blockP, thenP, reduceIte]) | with_reducible refine zq8 ?_)
        (first | refine Exec0.call [] cy ?_ rfl ?_ ?_ | refine Exec.call [] cy ?_ rfl ?_ ?_); (focus simp [-getElem?_pos, z0]); (focus simp [-getElem?_pos, z0, z1, z2, z0]); simp [-getElem?_pos, z0, z1, z2, z0]
        repeat (first | (with_reducible first | refine zq1 fun _ => ?_ | refine zq2 fun _ => ?_ | refine zq3 ?_) | ((first | refine zq4 ?_ | refine zq5 fun _ _ => ?_ | refine zq6 ?_); simp [-getElem?_pos, z0, z1, z2, z0]) | ((first | refine AWp.ret ?_ | refine AWp.skip ?_ | refine AWp.exit ?_); try simp only [thenP]) | (with_reducible refine zq7 ?_; simp only [blockP, thenP, reduceIte]) | with_reducible refine zq8 ?_)
        (first | refine Exec0.call [] ca ?_ rfl ?_ ?_ | refine Exec.call [] ca ?_ rfl ?_ ?_); (focus simp [-getElem?_pos, z0]); (focus simp [-getElem?_pos, z0, z1, z2, z0]); simp [-getElem?_pos, z0, z1, z2, z0]
        repeat (first | (with_reducible first | refine zq1 fun _ => ?_ | refine zq2 fun _ => ?_ | refine zq3 ?_) | ((first | refine zq4 ?_ | refine zq5 fun _ _ => ?_ | refine zq6 ?_); simp [-getElem?_pos, z0, z1, z2, z0]) | ((first | refine AWp.ret ?_ | refine AWp.skip ?_ | refine AWp.exit ?_); try simp only [thenP]) | (with_reducible refine zq7 ?_; simp only [blockP, thenP, reduceIte]) | with_reducible refine zq8 ?_)
        (first | refine Exec0.call [] ca2 ?_ rfl ?_ ?_ | refine Exec.call [] ca2 ?_ rfl ?_ ?_); (focus simp [-getElem?_pos, z0]); (focus simp [-getElem?_pos, z0, z1, z2, z0]); simp [-getElem?_pos, z0, z1, z2, z0]
        repeat (first | (with_reducible first | refine zq1 fun _ => ?_ | refine zq2 fun _ => ?_ | refine zq3 ?_) | ((first | refine zq4 ?_ | refine zq5 fun _ _ => ?_ | refine zq6 ?_); simp [-getElem?_pos, z0, z1, z2, z0]) | ((first | refine AWp.ret ?_ | refine AWp.skip ?_ | refine AWp.exit ?_); try simp only [thenP]) | (with_reducible refine zq7 ?_; simp only [blockP, thenP, reduceIte]) | with_reducible refine zq8 ?_)
        (first | refine Exec0.call [] ck ?_ rfl ?_ ?_ | refine Exec.call [] ck ?_ rfl ?_ ?_); (focus simp [-getElem?_pos, z0]); (focus simp [-getElem?_pos, z0, z1, z2, z0]); simp [-getElem?_pos, z0, z1, z2, z0]
        repeat (first | (with_reducible first | refine zq1 fun _ => ?_ | refine zq2 fun _ => ?_ | refine zq3 ?_) | ((first | refine zq4 ?_ | refine zq5 fun _ _ => ?_ | refine zq6 ?_); simp [-getElem?_pos, z0, z1, z2, z0]) | ((first | refine AWp.ret ?_ | refine AWp.skip ?_ | refine AWp.exit ?_); try simp only [thenP]) | (with_reducible refine zq7 ?_; simp only [blockP, thenP, reduceIte]) | with_reducible refine zq8 ?_)
        (first | refine Exec0.call [] cn1 ?_ rfl ?_ ?_ | refine Exec.call [] cn1 ?_ rfl ?_ ?_); (focus simp [-getElem?_pos, z0]); (focus simp [-getElem?_pos, z0, z1, z2, z0]); simp [-getElem?_pos, z0, z1, z2, z0]
        repeat (first | (with_reducible first | refine zq1 fun _ => ?_ | refine zq2 fun _ => ?_ | refine zq3 ?_) | ((first | refine zq4 ?_ | refine zq5 fun _ _ => ?_ | refine zq6 ?_); simp [-getElem?_pos, z0, z1, z2, z0]) | ((first | refine AWp.ret ?_ | refine AWp.skip ?_ | refine AWp.exit ?_); try simp only [thenP]) | (with_reducible refine zq7 ?_; simp only [blockP, thenP, reduceIte]) | with_reducible refine zq8 ?_)
        (first | refine Exec0.call [] cn2 ?_ rfl ?_ ?_ | refine Exec.call [] cn2 ?_ rfl ?_ ?_); (focus simp [-getElem?_pos, z0]); (focus simp [-getElem?_pos, z0, z1, z2, z0]); simp [-getElem?_pos, z0, z1, z2, z0]
        repeat (first | (with_reducible first | refine zq1 fun _ => ?_ | refine zq2 fun _ => ?_ | refine zq3 ?_) | ((first | refine zq4 ?_ | refine zq5 fun _ _ => ?_ | refine zq6 ?_); simp [-getElem?_pos, z0, z1, z2, z0]) | ((first | refine AWp.ret ?_ | refine AWp.skip ?_ | refine AWp.exit ?_); try simp only [thenP]) | (with_reducible refine zq7 ?_; simp only [blockP, thenP, reduceIte]) | with_reducible refine zq8 ?_)
        (first | refine Exec0.call [] cn3 ?_ rfl ?_ ?_ | refine Exec.call [] cn3 ?_ rfl ?_ ?_); (focus simp [-getElem?_pos, le1n, le2n, le1i, le2i]); (focus simp [-getElem?_pos, z0, z1, z2, le1n, le2n, le1i, le2i]); simp [-getElem?_pos, z0, z1, z2, le1n, le2n, le1i, le2i]
        repeat (first | (with_reducible first | refine zq1 fun _ => ?_ | refine zq2 fun _ => ?_ | refine zq3 ?_) | ((first | refine zq4 ?_ | refine zq5 fun _ _ => ?_ | refine zq6 ?_); simp [-getElem?_pos, z0, z1, z2, le1n, le2n, le1i, le2i, h3, f1, f2]) | ((first | refine AWp.ret ?_ | refine AWp.skip ?_ | refine AWp.exit ?_); try simp only [thenP]) | (with_reducible refine zq7 ?_; simp only [blockP, thenP, reduceIte]) | with_reducible refine zq8 ?_)
        (first | refine Exec0.call [134] cz ?_ rfl ?_ ?_ | refine Exec.call [134] cz ?_ rfl ?_ ?_); (focus simp [-getElem?_pos, z0]); (focus simp [-getElem?_pos, z0, z1, z2, z0]); simp [-getElem?_pos, z0, z1, z2, z0]
        repeat (first | (with_reducible first | refine zq1 fun _ => ?_ | refine zq2 fun _ => ?_ | refine zq3 ?_) | ((first | refine zq4 ?_ | refine zq5 fun _ _ => ?_ | refine zq6 ?_); simp [-getElem?_pos, z0, z1, z2, z0]) | ((first | refine AWp.ret ?_ | refine AWp.skip ?_ | refine AWp.exit ?_); try simp only [thenP]) | (with_reducible refine zq7 ?_; simp only [blockP, thenP, reduceIte]) | with_reducible refine zq8 ?_)
        (first | refine Exec0.call [134] cq ?_ rfl ?_ ?_ | refine Exec.call [134] cq ?_ rfl ?_ ?_); (focus simp [-getElem?_pos, le4n, le4i]); (focus simp [-getElem?_pos, z0, z1, z2, le4n, le4i]); simp [-getElem?_pos, z0, z1, z2, le4n, le4i]
        repeat (first | (with_reducible first | refine zq1 fun _ => ?_ | refine zq2 fun _ => ?_ | refine zq3 ?_) | ((first | refine zq4 ?_ | refine zq5 fun _ _ => ?_ | refine zq6 ?_); simp [-getElem?_pos, z0, z1, z2, le4n, le4i]) | ((first | refine AWp.ret ?_ | refine AWp.skip ?_ | refine AWp.exit ?_); try simp only [thenP]) | (with_reducible refine zq7 ?_; simp only [blockP, thenP, reduceIte]) | with_reducible refine zq8 ?_)
        (first | refine Exec0.call [] cb ?_ rfl ?_ ?_ | refine Exec.call [] cb ?_ rfl ?_ ?_); (focus simp [-getElem?_pos, z0]); (focus simp [-getElem?_pos, z0, z1, z2, z0]); simp [-getElem?_pos, z0, z1, z2, z0]
        repeat (first | (with_reducible first | refine zq1 fun _ => ?_ | refine zq2 fun _ => ?_ | refine zq3 ?_) | ((first | refine zq4 ?_ | refine zq5 fun _ _ => ?_ | refine zq6 ?_); simp [-getElem?_pos, z0, z1, z2, z0]) | ((first | refine AWp.ret ?_ | refine AWp.skip ?_ | refine AWp.exit ?_); try simp only [thenP]) | (with_reducible refine zq7 ?_; simp only [blockP, thenP, reduceIte]) | with_reducible refine zq8 ?_)
        (first | refine Exec0.call [] cs ?_ rfl ?_ ?_ | refine Exec.call [] cs ?_ rfl ?_ ?_); (focus simp [-getElem?_pos, z0]); (focus simp [-getElem?_pos, z0, z1, z2, z0]); simp [-getElem?_pos, z0, z1, z2, z0]
        repeat (first | (with_reducible first | refine zq1 fun _ => ?_ | refine zq2 fun _ => ?_ | refine zq3 ?_) | ((first | refine zq4 ?_ | refine zq5 fun _ _ => ?_ | refine zq6 ?_); simp [-getElem?_pos, z0, z1, z2, z0]) | ((first | refine AWp.ret ?_ | refine AWp.skip ?_ | refine AWp.exit ?_); try simp only [thenP]) | (with_reducible refine zq7 ?_; simp only [blockP, thenP, reduceIte]) | with_reducible refine zq8 ?_)
        (first | refine Exec0.call [] ck3 ?_ rfl ?_ ?_ | refine Exec.call [] ck3 ?_ rfl ?_ ?_); (focus simp [-getElem?_pos, z0]); (focus simp [-getElem?_pos, z0, z1, z2, z0]); simp [-getElem?_pos, z0, z1, z2, z0]
        repeat (first | (with_reducible first | refine zq1 fun _ => ?_ | refine zq2 fun _ => ?_ | refine zq3 ?_) | ((first | refine zq4 ?_ | refine zq5 fun _ _ => ?_ | refine zq6 ?_); simp [-getElem?_pos, z0, z1, z2, z0]) | ((first | refine AWp.ret ?_ | refine AWp.skip ?_ | refine AWp.exit ?_); try simp only [thenP]) | (with_reducible refine zq7 ?_; simp only [blockP, thenP, reduceIte]) | with_reducible refine zq8 ?_)
        (first | refine Exec0.call [] cw ?_ rfl ?_ ?_ | refine Exec.call [] cw ?_ rfl ?_ ?_); (focus simp [-getElem?_pos, z0]); (focus simp [-getElem?_pos, z0, z1, z2, z0]); simp [-getElem?_pos, z0, z1, z2, z0]
        repeat (first | (with_reducible first | refine zq1 fun _ => ?_ | refine zq2 fun _ => ?_ | refine zq3 ?_) | ((first | refine zq4 ?_ | refine zq5 fun _ _ => ?_ | refine zq6 ?_); simp [-getElem?_pos, z0, z1, z2, z0]) | ((first | refine AWp.ret ?_ | refine AWp.skip ?_ | refine AWp.exit ?_); try simp only [thenP]) | (with_reducible refine zq7 ?_; simp only [blockP, thenP, reduceIte]) | with_reducible refine zq8 ?_)
        (first | refine RR.ret ?_ | refine RR.normal ?_); simp [z0]
  · generalize aftR l ⟨ed, eb⟩ t = a at *
    generalize aftR l ⟨xd, xb⟩ t = b at *
    generalize aftE l ⟨ed, eb⟩ t = e1 at *
    generalize aftE l ⟨xd, xb⟩ t = e2 at *
    obtain ⟨a0, aq⟩ := a
    obtain ⟨b0, bq⟩ := b
    rcases hfz : fineB (l ++ [s]) ⟨ed, eb⟩ ⟨gd, gb⟩ <;> rw [hfz] at cz
    · cases hk : needN l ⟨gd, gb⟩ ⟨ed, eb⟩ with
      | none =>
        rw [hreach, hk, if_pos rfl] at cb
        refine acallK tabOk Try.func10 rfl rfl (show 7 ≤ _ by decide) rfl fun _ => ?_; simp only [Try.ntmps10]
        repeat (first | (with_reducible first | refine zq1 fun _ => ?_ | refine zq2 fun _ => ?_ | refine zq3 ?_) | ((first | refine zq4 ?_ | refine zq5 fun _ _ => ?_ | refine zq6 ?_); simp [-getElem?_pos, z0, z1, z2, z0]) | ((first | refine AWp.ret ?_ | refine AWp.skip ?_ | refine AWp.exit ?_); try simp only [thenP]) | (with_reducible refine zq7 ?_; simp only [blockP, thenP, reduceIte]) | with_reducible refine zq8 ?_)
        (first | refine Exec0.call [] cf ?_ rfl ?_ ?_ | refine Exec.call [] cf ?_ rfl ?_ ?_); (focus simp [-getElem?_pos, g1, g1i]); (focus simp [-getElem?_pos, z0, z1, z2, g1, g1i]); simp [-getElem?_pos, z0, z1, z2, g1, g1i]
        repeat (first | (with_reducible first | refine zq1 fun _ => ?_ | refine zq2 fun _ => ?_ | refine zq3 ?_) | ((first | refine zq4 ?_ | refine zq5 fun _ _ => ?_ | refine zq6 ?_); simp [-getElem?_pos, z0, z1, z2, g1, g1i, v0, v1, v2, v3, v4, v5, v6, v7, m1, m2]) | ((first | refine AWp.ret ?_ | refine AWp.skip ?_ | refine AWp.exit ?_); try simp only [thenP]) | (with_reducible refine zq7 ?_; simp only [blockP, thenP, reduceIte]) | with_reducible refine zq8 ?_)
        (first | refine Exec0.call [] cx ?_ rfl ?_ ?_ | refine Exec.call [] cx ?_ rfl ?_ ?_); (focus simp [-getElem?_pos, z0]); (focus simp [-getElem?_pos, z0, z1, z2, z0]); simp [-getElem?_pos, z0, z1, z2, z0]
        repeat (first | (with_reducible first | refine zq1 fun _ => ?_ | refine zq2 fun _ => ?_ | refine zq3 ?_) | ((first | refine zq4 ?_ | refine zq5 fun _ _ => ?_ | refine zq6 ?_); simp [-getElem?_pos, z0, z1, z2, v0, v1, v2, v3, v4, v5, v6, v7, m3, m4]) | ((first | refine AWp.ret ?_ | refine AWp.skip ?_ | refine AWp.exit ?_); try simp only [thenP]) | (with_reducible refine zq7 ?_; simp only [blockP, thenP, reduceIte]) | with_reducible refine zq8 ?_)
        (first | refine Exec0.call [] cy ?_ rfl ?_ ?_ | refine Exec.call [] cy ?_ rfl ?_ ?_); (focus simp [-getElem?_pos, z0]); (focus simp [-getElem?_pos, z0, z1, z2, z0]); simp [-getElem?_pos, z0, z1, z2, z0]
        repeat (first | (with_reducible first | refine zq1 fun _ => ?_ | refine zq2 fun _ => ?_ | refine zq3 ?_) | ((first | refine zq4 ?_ | refine zq5 fun _ _ => ?_ | refine zq6 ?_); simp [-getElem?_pos, z0, z1, z2, z0]) | ((first | refine AWp.ret ?_ | refine AWp.skip ?_ | refine AWp.exit ?_); try simp only [thenP]) | (with_reducible refine zq7 ?_; simp only [blockP, thenP, reduceIte]) | with_reducible refine zq8 ?_)
        (first | refine Exec0.call [] ca ?_ rfl ?_ ?_ | refine Exec.call [] ca ?_ rfl ?_ ?_); (focus simp [-getElem?_pos, ha]); (focus simp [-getElem?_pos, z0, z1, z2, ha]); simp [-getElem?_pos, z0, z1, z2, ha]
        repeat (first | (with_reducible first | refine zq1 fun _ => ?_ | refine zq2 fun _ => ?_ | refine zq3 ?_) | ((first | refine zq4 ?_ | refine zq5 fun _ _ => ?_ | refine zq6 ?_); simp [-getElem?_pos, z0, z1, z2, ha]) | ((first | refine AWp.ret ?_ | refine AWp.skip ?_ | refine AWp.exit ?_); try simp only [thenP]) | (with_reducible refine zq7 ?_; simp only [blockP, thenP, reduceIte]) | with_reducible refine zq8 ?_)
        (first | refine Exec0.call [] ca2 ?_ rfl ?_ ?_ | refine Exec.call [] ca2 ?_ rfl ?_ ?_); (focus simp [-getElem?_pos, ha]); (focus simp [-getElem?_pos, z0, z1, z2, ha]); simp [-getElem?_pos, z0, z1, z2, ha]
        repeat (first | (with_reducible first | refine zq1 fun _ => ?_ | refine zq2 fun _ => ?_ | refine zq3 ?_) | ((first | refine zq4 ?_ | refine zq5 fun _ _ => ?_ | refine zq6 ?_); simp [-getElem?_pos, z0, z1, z2, ha]) | ((first | refine AWp.ret ?_ | refine AWp.skip ?_ | refine AWp.exit ?_); try simp only [thenP]) | (with_reducible refine zq7 ?_; simp only [blockP, thenP, reduceIte]) | with_reducible refine zq8 ?_)
        (first | refine Exec0.call [] cn1 ?_ rfl ?_ ?_ | refine Exec.call [] cn1 ?_ rfl ?_ ?_); (focus simp [-getElem?_pos, z0]); (focus simp [-getElem?_pos, z0, z1, z2, z0]); simp [-getElem?_pos, z0, z1, z2, z0]
        repeat (first | (with_reducible first | refine zq1 fun _ => ?_ | refine zq2 fun _ => ?_ | refine zq3 ?_) | ((first | refine zq4 ?_ | refine zq5 fun _ _ => ?_ | refine zq6 ?_); simp [-getElem?_pos, z0, z1, z2, z0]) | ((first | refine AWp.ret ?_ | refine AWp.skip ?_ | refine AWp.exit ?_); try simp only [thenP]) | (with_reducible refine zq7 ?_; simp only [blockP, thenP, reduceIte]) | with_reducible refine zq8 ?_)
        (first | refine Exec0.call [] cn2 ?_ rfl ?_ ?_ | refine Exec.call [] cn2 ?_ rfl ?_ ?_); (focus simp [-getElem?_pos, z0]); (focus simp [-getElem?_pos, z0, z1, z2, z0]); simp [-getElem?_pos, z0, z1, z2, z0]
        repeat (first | (with_reducible first | refine zq1 fun _ => ?_ | refine zq2 fun _ => ?_ | refine zq3 ?_) | ((first | refine zq4 ?_ | refine zq5 fun _ _ => ?_ | refine zq6 ?_); simp [-getElem?_pos, z0, z1, z2, z0]) | ((first | refine AWp.ret ?_ | refine AWp.skip ?_ | refine AWp.exit ?_); try simp only [thenP]) | (with_reducible refine zq7 ?_; simp only [blockP, thenP, reduceIte]) | with_reducible refine zq8 ?_)
        (first | refine Exec0.call [] cn3 ?_ rfl ?_ ?_ | refine Exec.call [] cn3 ?_ rfl ?_ ?_); (focus simp [-getElem?_pos, le1n, le2n, le1i, le2i]); (focus simp [-getElem?_pos, z0, z1, z2, le1n, le2n, le1i, le2i]); simp [-getElem?_pos, z0, z1, z2, le1n, le2n, le1i, le2i]
        repeat (first | (with_reducible first | refine zq1 fun _ => ?_ | refine zq2 fun _ => ?_ | refine zq3 ?_) | ((first | refine zq4 ?_ | refine zq5 fun _ _ => ?_ | refine zq6 ?_); simp [-getElem?_pos, z0, z1, z2, le1n, le2n, le1i, le2i, h3, f1, f2]) | ((first | refine AWp.ret ?_ | refine AWp.skip ?_ | refine AWp.exit ?_); try simp only [thenP]) | (with_reducible refine zq7 ?_; simp only [blockP, thenP, reduceIte]) | with_reducible refine zq8 ?_)
        (first | refine Exec0.call [134] cz ?_ rfl ?_ ?_ | refine Exec.call [134] cz ?_ rfl ?_ ?_); (focus simp [-getElem?_pos, z0]); (focus simp [-getElem?_pos, z0, z1, z2, z0]); simp [-getElem?_pos, z0, z1, z2, z0]
        repeat (first | (with_reducible first | refine zq1 fun _ => ?_ | refine zq2 fun _ => ?_ | refine zq3 ?_) | ((first | refine zq4 ?_ | refine zq5 fun _ _ => ?_ | refine zq6 ?_); simp [-getElem?_pos, z0, z1, z2, z0]) | ((first | refine AWp.ret ?_ | refine AWp.skip ?_ | refine AWp.exit ?_); try simp only [thenP]) | (with_reducible refine zq7 ?_; simp only [blockP, thenP, reduceIte]) | with_reducible refine zq8 ?_)
        (first | refine Exec0.call [] cb ?_ rfl ?_ ?_ | refine Exec.call [] cb ?_ rfl ?_ ?_); (focus simp [-getElem?_pos, z0]); (focus simp [-getElem?_pos, z0, z1, z2, z0]); simp [-getElem?_pos, z0, z1, z2, z0]
        repeat (first | (with_reducible first | refine zq1 fun _ => ?_ | refine zq2 fun _ => ?_ | refine zq3 ?_) | ((first | refine zq4 ?_ | refine zq5 fun _ _ => ?_ | refine zq6 ?_); simp [-getElem?_pos, z0, z1, z2, z0]) | ((first | refine AWp.ret ?_ | refine AWp.skip ?_ | refine AWp.exit ?_); try simp only [thenP]) | (with_reducible refine zq7 ?_; simp only [blockP, thenP, reduceIte]) | with_reducible refine zq8 ?_)
        (first | refine Exec0.call [] cw ?_ rfl ?_ ?_ | refine Exec.call [] cw ?_ rfl ?_ ?_); (focus simp [-getElem?_pos, z0]); (focus simp [-getElem?_pos, z0, z1, z2, z0]); simp [-getElem?_pos, z0, z1, z2, z0]
        repeat (first | (with_reducible first | refine zq1 fun _ => ?_ | refine zq2 fun _ => ?_ | refine zq3 ?_) | ((first | refine zq4 ?_ | refine zq5 fun _ _ => ?_ | refine zq6 ?_); simp [-getElem?_pos, z0, z1, z2, z0]) | ((first | refine AWp.ret ?_ | refine AWp.skip ?_ | refine AWp.exit ?_); try simp only [thenP]) | (with_reducible refine zq7 ?_; simp only [blockP, thenP, reduceIte]) | with_reducible refine zq8 ?_)
        (first | refine RR.ret ?_ | refine RR.normal ?_); simp [z0]
      | some k =>
        rw [hreach, hk, if_neg (by simp)] at cb
        obtain ⟨e1, e2⟩ := hbest k hk
        rw [e1] at cs
        rw [e2] at ck3
        refine acallK tabOk Try.func10 rfl rfl (show 7 ≤ _ by decide) rfl fun _ => ?_; simp only [Try.ntmps10]
        repeat (first | (with_reducible first | refine zq1 fun _ => ?_ | refine zq2 fun _ => ?_ | refine zq3 ?_) | ((first | refine zq4 ?_ | refine zq5 fun _ _ => ?_ | refine zq6 ?_); simp [-getElem?_pos, z0, z1, z2, z0]) | ((first | refine AWp.ret ?_ | refine AWp.skip ?_ | refine AWp.exit ?_); try simp only [thenP]) | (with_reducible refine zq7 ?_; simp only [blockP, thenP, reduceIte]) | with_reducible refine zq8 ?_)
        (first | refine Exec0.call [] cf ?_ rfl ?_ ?_ | refine Exec.call [] cf ?_ rfl ?_ ?_); (focus simp [-getElem?_pos, g1, g1i]); (focus simp [-getElem?_pos, z0, z1, z2, g1, g1i]); simp [-getElem?_pos, z0, z1, z2, g1, g1i]
        repeat (first | (with_reducible first | refine zq1 fun _ => ?_ | refine zq2 fun _ => ?_ | refine zq3 ?_) | ((first | refine zq4 ?_ | refine zq5 fun _ _ => ?_ | refine zq6 ?_); simp [-getElem?_pos, z0, z1, z2, g1, g1i, v0, v1, v2, v3, v4, v5, v6, v7, m1, m2]) | ((first | refine AWp.ret ?_ | refine AWp.skip ?_ | refine AWp.exit ?_); try simp only [thenP]) | (with_reducible refine zq7 ?_; simp only [blockP, thenP, reduceIte]) | with_reducible refine zq8 ?_)
        (first | refine Exec0.call [] cx ?_ rfl ?_ ?_ | refine Exec.call [] cx ?_ rfl ?_ ?_); (focus simp [-getElem?_pos, z0]); (focus simp [-getElem?_pos, z0, z1, z2, z0]); simp [-getElem?_pos, z0, z1, z2, z0]
        repeat (first | (with_reducible first | refine zq1 fun _ => ?_ | refine zq2 fun _ => ?_ | refine zq3 ?_) | ((first | refine zq4 ?_ | refine zq5 fun _ _ => ?_ | refine zq6 ?_); simp [-getElem?_pos, z0, z1, z2, v0, v1, v2, v3, v4, v5, v6, v7, m3, m4]) | ((first | refine AWp.ret ?_ | refine AWp.skip ?_ | refine AWp.exit ?_); try simp only [thenP]) | (with_reducible refine zq7 ?_; simp only [blockP, thenP, reduceIte]) | with_reducible refine zq8 ?_)
        (first | refine Exec0.call [] cy ?_ rfl ?_ ?_ | refine Exec.call [] cy ?_ rfl ?_ ?_); (focus simp [-getElem?_pos, z0]); (focus simp [-getElem?_pos, z0, z1, z2, z0]); simp [-getElem?_pos, z0, z1, z2, z0]
        repeat (first | (with_reducible first | refine zq1 fun _ => ?_ | refine zq2 fun _ => ?_ | refine zq3 ?_) | ((first | refine zq4 ?_ | refine zq5 fun _ _ => ?_ | refine zq6 ?_); simp [-getElem?_pos, z0, z1, z2, z0]) | ((first | refine AWp.ret ?_ | refine AWp.skip ?_ | refine AWp.exit ?_); try simp only [thenP]) | (with_reducible refine zq7 ?_; simp only [blockP, thenP, reduceIte]) | with_reducible refine zq8 ?_)
        (first | refine Exec0.call [] ca ?_ rfl ?_ ?_ | refine Exec.call [] ca ?_ rfl ?_ ?_); (focus simp [-getElem?_pos, ha]); (focus simp [-getElem?_pos, z0, z1, z2, ha]); simp [-getElem?_pos, z0, z1, z2, ha]
        repeat (first | (with_reducible first | refine zq1 fun _ => ?_ | refine zq2 fun _ => ?_ | refine zq3 ?_) | ((first | refine zq4 ?_ | refine zq5 fun _ _ => ?_ | refine zq6 ?_); simp [-getElem?_pos, z0, z1, z2, ha]) | ((first | refine AWp.ret ?_ | refine AWp.skip ?_ | refine AWp.exit ?_); try simp only [thenP]) | (with_reducible refine zq7 ?_; simp only [blockP, thenP, reduceIte]) | with_reducible refine zq8 ?_)
        (first | refine Exec0.call [] ca2 ?_ rfl ?_ ?_ | refine Exec.call [] ca2 ?_ rfl ?_ ?_); (focus simp [-getElem?_pos, ha]); (focus simp [-getElem?_pos, z0, z1, z2, ha]); simp [-getElem?_pos, z0, z1, z2, ha]
        repeat (first | (with_reducible first | refine zq1 fun _ => ?_ | refine zq2 fun _ => ?_ | refine zq3 ?_) | ((first | refine zq4 ?_ | refine zq5 fun _ _ => ?_ | refine zq6 ?_); simp [-getElem?_pos, z0, z1, z2, ha]) | ((first | refine AWp.ret ?_ | refine AWp.skip ?_ | refine AWp.exit ?_); try simp only [thenP]) | (with_reducible refine zq7 ?_; simp only [blockP, thenP, reduceIte]) | with_reducible refine zq8 ?_)
        (first | refine Exec0.call [] cn1 ?_ rfl ?_ ?_ | refine Exec.call [] cn1 ?_ rfl ?_ ?_); (focus simp [-getElem?_pos, z0]); (focus simp [-getElem?_pos, z0, z1, z2, z0]); simp [-getElem?_pos, z0, z1, z2, z0]
        repeat (first | (with_reducible first | refine zq1 fun _ => ?_ | refine zq2 fun _ => ?_ | refine zq3 ?_) | ((first | refine zq4 ?_ | refine zq5 fun _ _ => ?_ | refine zq6 ?_); simp [-getElem?_pos, z0, z1, z2, z0]) | ((first | refine AWp.ret ?_ | refine AWp.skip ?_ | refine AWp.exit ?_); try simp only [thenP]) | (with_reducible refine zq7 ?_; simp only [blockP, thenP, reduceIte]) | with_reducible refine zq8 ?_)
        (first | refine Exec0.call [] cn2 ?_ rfl ?_ ?_ | refine Exec.call [] cn2 ?_ rfl ?_ ?_); (focus simp [-getElem?_pos, z0]); (focus simp [-getElem?_pos, z0, z1, z2, z0]); simp [-getElem?_pos, z0, z1, z2, z0]
        repeat (first | (with_reducible first | refine zq1 fun _ => ?_ | refine zq2 fun _ => ?_ | refine zq3 ?_) | ((first | refine zq4 ?_ | refine zq5 fun _ _ => ?_ | refine zq6 ?_); simp [-getElem?_pos, z0, z1, z2, z0]) | ((first | refine AWp.ret ?_ | refine AWp.skip ?_ | refine AWp.exit ?_); try simp only [thenP]) | (with_reducible refine zq7 ?_; simp only [blockP, thenP, reduceIte]) | with_reducible refine zq8 ?_)
        (first | refine Exec0.call [] cn3 ?_ rfl ?_ ?_ | refine Exec.call [] cn3 ?_ rfl ?_ ?_); (focus simp [-getElem?_pos, le1n, le2n, le1i, le2i]); (focus simp [-getElem?_pos, z0, z1, z2, le1n, le2n, le1i, le2i]); simp [-getElem?_pos, z0, z1, z2, le1n, le2n, le1i, le2i]
        repeat (first | (with_reducible first | refine zq1 fun _ => ?_ | refine zq2 fun _ => ?_ | refine zq3 ?_) | ((first | refine zq4 ?_ | refine zq5 fun _ _ => ?_ | refine zq6 ?_); simp [-getElem?_pos, z0, z1, z2, le1n, le2n, le1i, le2i, h3, f1, f2]) | ((first | refine AWp.ret ?_ | refine AWp.skip ?_ | refine AWp.exit ?_); try simp only [thenP]) | (with_reducible refine zq7 ?_; simp only [blockP, thenP, reduceIte]) | with_reducible refine zq8 ?_)
        (first | refine Exec0.call [134] cz ?_ rfl ?_ ?_ | refine Exec.call [134] cz ?_ rfl ?_ ?_); (focus simp [-getElem?_pos, z0]); (focus simp [-getElem?_pos, z0, z1, z2, z0]); simp [-getElem?_pos, z0, z1, z2, z0]
        repeat (first | (with_reducible first | refine zq1 fun _ => ?_ | refine zq2 fun _ => ?_ | refine zq3 ?_) | ((first | refine zq4 ?_ | refine zq5 fun _ _ => ?_ | refine zq6 ?_); simp [-getElem?_pos, z0, z1, z2, z0]) | ((first | refine AWp.ret ?_ | refine AWp.skip ?_ | refine AWp.exit ?_); try simp only [thenP]) | (with_reducible refine zq7 ?_; simp only [blockP, thenP, reduceIte]) | with_reducible refine zq8 ?_)
        (first | refine Exec0.call [] cb ?_ rfl ?_ ?_ | refine Exec.call [] cb ?_ rfl ?_ ?_); (focus simp [-getElem?_pos, z0]); (focus simp [-getElem?_pos, z0, z1, z2, z0]); simp [-getElem?_pos, z0, z1, z2, z0]
        repeat (first | (with_reducible first | refine zq1 fun _ => ?_ | refine zq2 fun _ => ?_ | refine zq3 ?_) | ((first | refine zq4 ?_ | refine zq5 fun _ _ => ?_ | refine zq6 ?_); simp [-getElem?_pos, z0, z1, z2, z0]) | ((first | refine AWp.ret ?_ | refine AWp.skip ?_ | refine AWp.exit ?_); try simp only [thenP]) | (with_reducible refine zq7 ?_; simp only [blockP, thenP, reduceIte]) | with_reducible refine zq8 ?_)
        (first | refine Exec0.call [] cs ?_ rfl ?_ ?_ | refine Exec.call [] cs ?_ rfl ?_ ?_); (focus simp [-getElem?_pos, z0]); (focus simp [-getElem?_pos, z0, z1, z2, z0]); simp [-getElem?_pos, z0, z1, z2, z0]
        repeat (first | (with_reducible first | refine zq1 fun _ => ?_ | refine zq2 fun _ => ?_ | refine zq3 ?_) | ((first | refine zq4 ?_ | refine zq5 fun _ _ => ?_ | refine zq6 ?_); simp [-getElem?_pos, z0, z1, z2, z0]) | ((first | refine AWp.ret ?_ | refine AWp.skip ?_ | refine AWp.exit ?_); try simp only [thenP]) | (with_reducible refine zq7 ?_; simp only [blockP, thenP, reduceIte]) | with_reducible refine zq8 ?_)
        (first | refine Exec0.call [] ck3 ?_ rfl ?_ ?_ | refine Exec.call [] ck3 ?_ rfl ?_ ?_); (focus simp [-getElem?_pos, z0]); (focus simp [-getElem?_pos, z0, z1, z2, z0]); simp [-getElem?_pos, z0, z1, z2, z0]
        repeat (first | (with_reducible first | refine zq1 fun _ => ?_ | refine zq2 fun _ => ?_ | refine zq3 ?_) | ((first | refine zq4 ?_ | refine zq5 fun _ _ => ?_ | refine zq6 ?_); simp [-getElem?_pos, z0, z1, z2, z0]) | ((first | refine AWp.ret ?_ | refine AWp.skip ?_ | refine AWp.exit ?_); try simp only [thenP]) | (with_reducible refine zq7 ?_; simp only [blockP, thenP, reduceIte]) | with_reducible refine zq8 ?_)
        (first | refine Exec0.call [] cw ?_ rfl ?_ ?_ | refine Exec.call [] cw ?_ rfl ?_ ?_); (focus simp [-getElem?_pos, z0]); (focus simp [-getElem?_pos, z0, z1, z2, z0]); simp [-getElem?_pos, z0, z1, z2, z0]
        repeat (first | (with_reducible first | refine zq1 fun _ => ?_ | refine zq2 fun _ => ?_ | refine zq3 ?_) | ((first | refine zq4 ?_ | refine zq5 fun _ _ => ?_ | refine zq6 ?_); simp [-getElem?_pos, z0, z1, z2, z0]) | ((first | refine AWp.ret ?_ | refine AWp.skip ?_ | refine AWp.exit ?_); try simp only [thenP]) | (with_reducible refine zq7 ?_; simp only [blockP, thenP, reduceIte]) | with_reducible refine zq8 ?_)
        (first | refine RR.ret ?_ | refine RR.normal ?_); simp [z0]
    · obtain ⟨N4, le4, cq⟩ := hfew hfz
      have le4n : ¬ N1 < N4 := by omega
      have le4i : ¬ (N1 : Int) < N4 := by omega
      cases hk : needN l ⟨gd, gb⟩ ⟨ed, eb⟩ with
      | none =>
        rw [hreach, hk, if_pos rfl] at cb
        refine acallK tabOk Try.func10 rfl rfl (show 7 ≤ _ by decide) rfl fun _ => ?_; simp only [Try.ntmps10]
        repeat (first | (with_reducible first | refine zq1 fun _ => ?_ | refine zq2 fun _ => ?_ | refine zq3 ?_) | ((first | refine zq4 ?_ | refine zq5 fun _ _ => ?_ | refine zq6 ?_); simp [-getElem?_pos, z0, z1, z2, z0]) | ((first | refine AWp.ret ?_ | refine AWp.skip ?_ | refine AWp.exit ?_); try simp only [thenP]) | (with_reducible refine zq7 ?_; simp only [blockP, thenP, reduceIte]) | with_reducible refine zq8 ?_)
        (first | refine Exec0.call [] cf ?_ rfl ?_ ?_ | refine Exec.call [] cf ?_ rfl ?_ ?_); (focus simp [-getElem?_pos, g1, g1i]); (focus simp [-getElem?_pos, z0, z1, z2, g1, g1i]); simp [-getElem?_pos, z0, z1, z2, g1, g1i]
        repeat (first | (with_reducible first | refine zq1 fun _ => ?_ | refine zq2 fun _ => ?_ | refine zq3 ?_) | ((first | refine zq4 ?_ | refine zq5 fun _ _ => ?_ | refine zq6 ?_); simp [-getElem?_pos, z0, z1, z2, g1, g1i, v0, v1, v2, v3, v4, v5, v6, v7, m1, m2]) | ((first | refine AWp.ret ?_ | refine AWp.skip ?_ | refine AWp.exit ?_); try simp only [thenP]) | (with_reducible refine zq7 ?_; simp only [blockP, thenP, reduceIte]) | with_reducible refine zq8 ?_)
        (first | refine Exec0.call [] cx ?_ rfl ?_ ?_ | refine Exec.call [] cx ?_ rfl ?_ ?_); (focus simp [-getElem?_pos, z0]); (focus simp [-getElem?_pos, z0, z1, z2, z0]); simp [-getElem?_pos, z0, z1, z2, z0]
        repeat (first | (with_reducible first | refine zq1 fun _ => ?_ | refine zq2 fun _ => ?_ | refine zq3 ?_) | ((first | refine zq4 ?_ | refine zq5 fun _ _ => ?_ | refine zq6 ?_); simp [-getElem?_pos, z0, z1, z2, v0, v1, v2, v3, v4, v5, v6, v7, m3, m4]) | ((first | refine AWp.ret ?_ | refine AWp.skip ?_ | refine AWp.exit ?_); try simp only [thenP]) | (with_reducible refine zq7 ?_; simp only [blockP, thenP, reduceIte]) | with_reducible refine zq8 ?_)
        (first | refine Exec0.call [] cy ?_ rfl ?_ ?_ | refine Exec.call [] cy ?_ rfl ?_ ?_); (focus simp [-getElem?_pos, z0]); (focus simp [-getElem?_pos, z0, z1, z2, z0]); simp [-getElem?_pos, z0, z1, z2, z0]
        repeat (first | (with_reducible first | refine zq1 fun _ => ?_ | refine zq2 fun _ => ?_ | refine zq3 ?_) | ((first | refine zq4 ?_ | refine zq5 fun _ _ => ?_ | refine zq6 ?_); simp [-getElem?_pos, z0, z1, z2, z0]) | ((first | refine AWp.ret ?_ | refine AWp.skip ?_ | refine AWp.exit ?_); try simp only [thenP]) | (with_reducible refine zq7 ?_; simp only [blockP, thenP, reduceIte]) | with_reducible refine zq8 ?_)
        (first | refine Exec0.call [] ca ?_ rfl ?_ ?_ | refine Exec.call [] ca ?_ rfl ?_ ?_); (focus simp [-getElem?_pos, ha]); (focus simp [-getElem?_pos, z0, z1, z2, ha]); simp [-getElem?_pos, z0, z1, z2, ha]
        repeat (first | (with_reducible first | refine zq1 fun _ => ?_ | refine zq2 fun _ => ?_ | refine zq3 ?_) | ((first | refine zq4 ?_ | refine zq5 fun _ _ => ?_ | refine zq6 ?_); simp [-getElem?_pos, z0, z1, z2, ha]) | ((first | refine AWp.ret ?_ | refine AWp.skip ?_ | refine AWp.exit ?_); try simp only [thenP]) | (with_reducible refine zq7 ?_; simp only [blockP, thenP, reduceIte]) | with_reducible refine zq8 ?_)
        (first | refine Exec0.call [] ca2 ?_ rfl ?_ ?_ | refine Exec.call [] ca2 ?_ rfl ?_ ?_); (focus simp [-getElem?_pos, ha]); (focus simp [-getElem?_pos, z0, z1, z2, ha]); simp [-getElem?_pos, z0, z1, z2, ha]
        repeat (first | (with_reducible first | refine zq1 fun _ => ?_ | refine zq2 fun _ => ?_ | refine zq3 ?_) | ((first | refine zq4 ?_ | refine zq5 fun _ _ => ?_ | refine zq6 ?_); simp [-getElem?_pos, z0, z1, z2, ha]) | ((first | refine AWp.ret ?_ | refine AWp.skip ?_ | refine AWp.exit ?_); try simp only [thenP]) | (with_reducible refine zq7 ?_; simp only [blockP, thenP, reduceIte]) | with_reducible refine zq8 ?_)
        (first | refine Exec0.call [] cn1 ?_ rfl ?_ ?_ | refine Exec.call [] cn1 ?_ rfl ?_ ?_); (focus simp [-getElem?_pos, z0]); (focus simp [-getElem?_pos, z0, z1, z2, z0]); simp [-getElem?_pos, z0, z1, z2, z0]
        repeat (first | (with_reducible first | refine zq1 fun _ => ?_ | refine zq2 fun _ => ?_ | refine zq3 ?_) | ((first | refine zq4 ?_ | refine zq5 fun _ _ => ?_ | refine zq6 ?_); simp [-getElem?_pos, z0, z1, z2, z0]) | ((first | refine AWp.ret ?_ | refine AWp.skip ?_ | refine AWp.exit ?_); try simp only [thenP]) | (with_reducible refine zq7 ?_; simp only [blockP, thenP, reduceIte]) | with_reducible refine zq8 ?_)
        (first | refine Exec0.call [] cn2 ?_ rfl ?_ ?_ | refine Exec.call [] cn2 ?_ rfl ?_ ?_); (focus simp [-getElem?_pos, z0]); (focus simp [-getElem?_pos, z0, z1, z2, z0]); simp [-getElem?_pos, z0, z1, z2, z0]
        repeat (first | (with_reducible first | refine zq1 fun _ => ?_ | refine zq2 fun _ => ?_ | refine zq3 ?_) | ((first | refine zq4 ?_ | refine zq5 fun _ _ => ?_ | refine zq6 ?_); simp [-getElem?_pos, z0, z1, z2, z0]) | ((first | refine AWp.ret ?_ | refine AWp.skip ?_ | refine AWp.exit ?_); try simp only [thenP]) | (with_reducible refine zq7 ?_; simp only [blockP, thenP, reduceIte]) | with_reducible refine zq8 ?_)
        (first | refine Exec0.call [] cn3 ?_ rfl ?_ ?_ | refine Exec.call [] cn3 ?_ rfl ?_ ?_); (focus simp [-getElem?_pos, le1n, le2n, le1i, le2i]); (focus simp [-getElem?_pos, z0, z1, z2, le1n, le2n, le1i, le2i]); simp [-getElem?_pos, z0, z1, z2, le1n, le2n, le1i, le2i]
        repeat (first | (with_reducible first | refine zq1 fun _ => ?_ | refine zq2 fun _ => ?_ | refine zq3 ?_) | ((first | refine zq4 ?_ | refine zq5 fun _ _ => ?_ | refine zq6 ?_); simp [-getElem?_pos, z0, z1, z2, le1n, le2n, le1i, le2i, h3, f1, f2]) | ((first | refine AWp.ret ?_ | refine AWp.skip ?_ | refine AWp.exit ?_); try simp only [thenP]) | (with_reducible refine zq7 ?_; simp only [blockP, thenP, reduceIte]) | with_reducible refine zq8 ?_)
        (first | refine Exec0.call [134] cz ?_ rfl ?_ ?_ | refine Exec.call [134] cz ?_ rfl ?_ ?_); (focus simp [-getElem?_pos, z0]); (focus simp [-getElem?_pos, z0, z1, z2, z0]); simp [-getElem?_pos, z0, z1, z2, z0]
        repeat (first | (with_reducible first | refine zq1 fun _ => ?_ | refine zq2 fun _ => ?_ | refine zq3 ?_) | ((first | refine zq4 ?_ | refine zq5 fun _ _ => ?_ | refine zq6 ?_); simp [-getElem?_pos, z0, z1, z2, z0]) | ((first | refine AWp.ret ?_ | refine AWp.skip ?_ | refine AWp.exit ?_); try simp only [thenP]) | (with_reducible refine zq7 ?_; simp only [blockP, thenP, reduceIte]) | with_reducible refine zq8 ?_)
        (first | refine Exec0.call [134] cq ?_ rfl ?_ ?_ | refine Exec.call [134] cq ?_ rfl ?_ ?_); (focus simp [-getElem?_pos, le4n, le4i]); (focus simp [-getElem?_pos, z0, z1, z2, le4n, le4i]); simp [-getElem?_pos, z0, z1, z2, le4n, le4i]
        repeat (first | (with_reducible first | refine zq1 fun _ => ?_ | refine zq2 fun _ => ?_ | refine zq3 ?_) | ((first | refine zq4 ?_ | refine zq5 fun _ _ => ?_ | refine zq6 ?_); simp [-getElem?_pos, z0, z1, z2, le4n, le4i]) | ((first | refine AWp.ret ?_ | refine AWp.skip ?_ | refine AWp.exit ?_); try simp only [thenP]) | (with_reducible refine zq7 ?_; simp only [blockP, thenP, reduceIte]) | with_reducible refine zq8 ?_)
        (first | refine Exec0.call [] cb ?_ rfl ?_ ?_ | refine Exec.call [] cb ?_ rfl ?_ ?_); (focus simp [-getElem?_pos, z0]); (focus simp [-getElem?_pos, z0, z1, z2, z0]); simp [-getElem?_pos, z0, z1, z2, z0]
        repeat (first | (with_reducible first | refine zq1 fun _ => ?_ | refine zq2 fun _ => ?_ | refine zq3 ?_) | ((first | refine zq4 ?_ | refine zq5 fun _ _ => ?_ | refine zq6 ?_); simp [-getElem?_pos, z0, z1, z2, z0]) | ((first | refine AWp.ret ?_ | refine AWp.skip ?_ | refine AWp.exit ?_); try simp only [thenP]) | (with_reducible refine zq7 ?_; simp only [blockP, thenP, reduceIte]) | with_reducible refine zq8 ?_)
        (first | refine Exec0.call [] cw ?_ rfl ?_ ?_ | refine Exec.call [] cw ?_ rfl ?_ ?_); (focus simp [-getElem?_pos, z0]); (focus simp [-getElem?_pos, z0, z1, z2, z0]); simp [-getElem?_pos, z0, z1, z2, z0]
        repeat (first | (with_reducible first | refine zq1 fun _ => ?_ | refine zq2 fun _ => ?_ | refine zq3 ?_) | ((first | refine zq4 ?_ | refine zq5 fun _ _ => ?_ | refine zq6 ?_); simp [-getElem?_pos, z0, z1, z2, z0]) | ((first | refine AWp.ret ?_ | refine AWp.skip ?_ | refine AWp.exit ?_); try simp only [thenP]) | (with_reducible refine zq7 ?_; simp only [blockP, thenP, reduceIte]) | with_reducible refine zq8 ?_)
        (first | refine RR.ret ?_ | refine RR.normal ?_); simp [z0]
      | some k =>
        rw [hreach, hk, if_neg (by simp)] at cb
        obtain ⟨e1, e2⟩ := hbest k hk
        rw [e1] at cs
        rw [e2] at ck3
        refine acallK tabOk Try.func10 rfl rfl (show 7 ≤ _ by decide) rfl fun _ => ?_; simp only [Try.ntmps10]
        repeat (first | (with_reducible first | refine zq1 fun _ => ?_ | refine zq2 fun _ => ?_ | refine zq3 ?_) | ((first | refine zq4 ?_ | refine zq5 fun _ _ => ?_ | refine zq6 ?_); simp [-getElem?_pos, z0, z1, z2, z0]) | ((first | refine AWp.ret ?_ | refine AWp.skip ?_ | refine AWp.exit ?_); try simp only [thenP]) | (with_reducible refine zq7 ?_; simp only [blockP, thenP, reduceIte]) | with_reducible refine zq8 ?_)
        (first | refine Exec0.call [] cf ?_ rfl ?_ ?_ | refine Exec.call [] cf ?_ rfl ?_ ?_); (focus simp [-getElem?_pos, g1, g1i]); (focus simp [-getElem?_pos, z0, z1, z2, g1, g1i]); simp [-getElem?_pos, z0, z1, z2, g1, g1i]
        repeat (first | (with_reducible first | refine zq1 fun _ => ?_ | refine zq2 fun _ => ?_ | refine zq3 ?_) | ((first | refine zq4 ?_ | refine zq5 fun _ _ => ?_ | refine zq6 ?_); simp [-getElem?_pos, z0, z1, z2, g1, g1i, v0, v1, v2, v3, v4, v5, v6, v7, m1, m2]) | ((first | refine AWp.ret ?_ | refine AWp.skip ?_ | refine AWp.exit ?_); try simp only [thenP]) | (with_reducible refine zq7 ?_; simp only [blockP, thenP, reduceIte]) | with_reducible refine zq8 ?_)
        (first | refine Exec0.call [] cx ?_ rfl ?_ ?_ | refine Exec.call [] cx ?_ rfl ?_ ?_); (focus simp [-getElem?_pos, z0]); (focus simp [-getElem?_pos, z0, z1, z2, z0]); simp [-getElem?_pos, z0, z1, z2, z0]
        repeat (first | (with_reducible first | refine zq1 fun _ => ?_ | refine zq2 fun _ => ?_ | refine zq3 ?_) | ((first | refine zq4 ?_ | refine zq5 fun _ _ => ?_ | refine zq6 ?_); simp [-getElem?_pos, z0, z1, z2, v0, v1, v2, v3, v4, v5, v6, v7, m3, m4]) | ((first | refine AWp.ret ?_ | refine AWp.skip ?_ | refine AWp.exit ?_); try simp only [thenP]) | (with_reducible refine zq7 ?_; simp only [blockP, thenP, reduceIte]) | with_reducible refine zq8 ?_)
        (first | refine Exec0.call [] cy ?_ rfl ?_ ?_ | refine Exec.call [] cy ?_ rfl ?_ ?_); (focus simp [-getElem?_pos, z0]); (focus simp [-getElem?_pos, z0, z1, z2, z0]); simp [-getElem?_pos, z0, z1, z2, z0]
        repeat (first | (with_reducible first | refine zq1 fun _ => ?_ | refine zq2 fun _ => ?_ | refine zq3 ?_) | ((first | refine zq4 ?_ | refine zq5 fun _ _ => ?_ | refine zq6 ?_); simp [-getElem?_pos, z0, z1, z2, z0]) | ((first | refine AWp.ret ?_ | refine AWp.skip ?_ | refine AWp.exit ?_); try simp only [thenP]) | (with_reducible refine zq7 ?_; simp only [blockP, thenP, reduceIte]) | with_reducible refine zq8 ?_)
        (first | refine Exec0.call [] ca ?_ rfl ?_ ?_ | refine Exec.call [] ca ?_ rfl ?_ ?_); (focus simp [-getElem?_pos, ha]); (focus simp [-getElem?_pos, z0, z1, z2, ha]); simp [-getElem?_pos, z0, z1, z2, ha]
        repeat (first | (with_reducible first | refine zq1 fun _ => ?_ | refine zq2 fun _ => ?_ | refine zq3 ?_) | ((first | refine zq4 ?_ | refine zq5 fun _ _ => ?_ | refine zq6 ?_); simp [-getElem?_pos, z0, z1, z2, ha]) | ((first | refine AWp.ret ?_ | refine AWp.skip ?_ | refine AWp.exit ?_); try simp only [thenP]) | (with_reducible refine zq7 ?_; simp only [blockP, thenP, reduceIte]) | with_reducible refine zq8 ?_)
        (first | refine Exec0.call [] ca2 ?_ rfl ?_ ?_ | refine Exec.call [] ca2 ?_ rfl ?_ ?_); (focus simp [-getElem?_pos, ha]); (focus simp [-getElem?_pos, z0, z1, z2, ha]); simp [-getElem?_pos, z0, z1, z2, ha]
        repeat (first | (with_reducible first | refine zq1 fun _ => ?_ | refine zq2 fun _ => ?_ | refine zq3 ?_) | ((first | refine zq4 ?_ | refine zq5 fun _ _ => ?_ | refine zq6 ?_); simp [-getElem?_pos, z0, z1, z2, ha]) | ((first | refine AWp.ret ?_ | refine AWp.skip ?_ | refine AWp.exit ?_); try simp only [thenP]) | (with_reducible refine zq7 ?_; simp only [blockP, thenP, reduceIte]) | with_reducible refine zq8 ?_)
        (first | refine Exec0.call [] cn1 ?_ rfl ?_ ?_ | refine Exec.call [] cn1 ?_ rfl ?_ ?_); (focus simp [-getElem?_pos, z0]); (focus simp [-getElem?_pos, z0, z1, z2, z0]); simp [-getElem?_pos, z0, z1, z2, z0]
        repeat (first | (with_reducible first | refine zq1 fun _ => ?_ | refine zq2 fun _ => ?_ | refine zq3 ?_) | ((first | refine zq4 ?_ | refine zq5 fun _ _ => ?_ | refine zq6 ?_); simp [-getElem?_pos, z0, z1, z2, z0]) | ((first | refine AWp.ret ?_ | refine AWp.skip ?_ | refine AWp.exit ?_); try simp only [thenP]) | (with_reducible refine zq7 ?_; simp only [blockP, thenP, reduceIte]) | with_reducible refine zq8 ?_)
        (first | refine Exec0.call [] cn2 ?_ rfl ?_ ?_ | refine Exec.call [] cn2 ?_ rfl ?_ ?_); (focus simp [-getElem?_pos, z0]); (focus simp [-getElem?_pos, z0, z1, z2, z0]); simp [-getElem?_pos, z0, z1, z2, z0]
        repeat (first | (with_reducible first | refine zq1 fun _ => ?_ | refine zq2 fun _ => ?_ | refine zq3 ?_) | ((first | refine zq4 ?_ | refine zq5 fun _ _ => ?_ | refine zq6 ?_); simp [-getElem?_pos, z0, z1, z2, z0]) | ((first | refine AWp.ret ?_ | refine AWp.skip ?_ | refine AWp.exit ?_); try simp only [thenP]) | (with_reducible refine zq7 ?_; simp only [blockP, thenP, reduceIte]) | with_reducible refine zq8 ?_)
        (first | refine Exec0.call [] cn3 ?_ rfl ?_ ?_ | refine Exec.call [] cn3 ?_ rfl ?_ ?_); (focus simp [-getElem?_pos, le1n, le2n, le1i, le2i]); (focus simp [-getElem?_pos, z0, z1, z2, le1n, le2n, le1i, le2i]); simp [-getElem?_pos, z0, z1, z2, le1n, le2n, le1i, le2i]
        repeat (first | (with_reducible first | refine zq1 fun _ => ?_ | refine zq2 fun _ => ?_ | refine zq3 ?_) | ((first | refine zq4 ?_ | refine zq5 fun _ _ => ?_ | refine zq6 ?_); simp [-getElem?_pos, z0, z1, z2, le1n, le2n, le1i, le2i, h3, f1, f2]) | ((first | refine AWp.ret ?_ | refine AWp.skip ?_ | refine AWp.exit ?_); try simp only [thenP]) | (with_reducible refine zq7 ?_; simp only [blockP, thenP, reduceIte]) | with_reducible refine zq8 ?_)
        (first | refine Exec0.call [134] cz ?_ rfl ?_ ?_ | refine Exec.call [134] cz ?_ rfl ?_ ?_); (focus simp [-getElem?_pos, z0]); (focus simp [-getElem?_pos, z0, z1, z2, z0]); simp [-getElem?_pos, z0, z1, z2, z0]
        repeat (first | (with_reducible first | refine zq1 fun _ => ?_ | refine zq2 fun _ => ?_ | refine zq3 ?_) | ((first | refine zq4 ?_ | refine zq5 fun _ _ => ?_ | refine zq6 ?_); simp [-getElem?_pos, z0, z1, z2, z0]) | ((first | refine AWp.ret ?_ | refine AWp.skip ?_ | refine AWp.exit ?_); try simp only [thenP]) | (with_reducible refine zq7 ?_; simp only [blockP, thenP, reduceIte]) | with_reducible refine zq8 ?_)
        (first | refine Exec0.call [134] cq ?_ rfl ?_ ?_ | refine Exec.call [134] cq ?_ rfl ?_ ?_); (focus simp [-getElem?_pos, le4n, le4i]); (focus simp [-getElem?_pos, z0, z1, z2, le4n, le4i]); simp [-getElem?_pos, z0, z1, z2, le4n, le4i]
        repeat (first | (with_reducible first | refine zq1 fun _ => ?_ | refine zq2 fun _ => ?_ | refine zq3 ?_) | ((first | refine zq4 ?_ | refine zq5 fun _ _ => ?_ | refine zq6 ?_); simp [-getElem?_pos, z0, z1, z2, le4n, le4i]) | ((first | refine AWp.ret ?_ | refine AWp.skip ?_ | refine AWp.exit ?_); try simp only [thenP]) | (with_reducible refine zq7 ?_; simp only [blockP, thenP, reduceIte]) | with_reducible refine zq8 ?_)
        (first | refine Exec0.call [] cb ?_ rfl ?_ ?_ | refine Exec.call [] cb ?_ rfl ?_ ?_); (focus simp [-getElem?_pos, z0]); (focus simp [-getElem?_pos, z0, z1, z2, z0]); simp [-getElem?_pos, z0, z1, z2, z0]
        repeat (first | (with_reducible first | refine zq1 fun _ => ?_ | refine zq2 fun _ => ?_ | refine zq3 ?_) | ((first | refine zq4 ?_ | refine zq5 fun _ _ => ?_ | refine zq6 ?_); simp [-getElem?_pos, z0, z1, z2, z0]) | ((first | refine AWp.ret ?_ | refine AWp.skip ?_ | refine AWp.exit ?_); try simp only [thenP]) | (with_reducible refine zq7 ?_; simp only [blockP, thenP, reduceIte]) | with_reducible refine zq8 ?_)
        (first | refine Exec0.call [] cs ?_ rfl ?_ ?_ | refine Exec.call [] cs ?_ rfl ?_ ?_); (focus simp [-getElem?_pos, z0]); (focus simp [-getElem?_pos, z0, z1, z2, z0]); simp [-getElem?_pos, z0, z1, z2, z0]
        repeat (first | (with_reducible first | refine zq1 fun _ => ?_ | refine zq2 fun _ => ?_ | refine zq3 ?_) | ((first | refine zq4 ?_ | refine zq5 fun _ _ => ?_ | refine zq6 ?_); simp [-getElem?_pos, z0, z1, z2, z0]) | ((first | refine AWp.ret ?_ | refine AWp.skip ?_ | refine AWp.exit ?_); try simp only [thenP]) | (with_reducible refine zq7 ?_; simp only [blockP, thenP, reduceIte]) | with_reducible refine zq8 ?_)
        (first | refine Exec0.call [] ck3 ?_ rfl ?_ ?_ | refine Exec.call [] ck3 ?_ rfl ?_ ?_); (focus simp [-getElem?_pos, z0]); (focus simp [-getElem?_pos, z0, z1, z2, z0]); simp [-getElem?_pos, z0, z1, z2, z0]
        repeat (first | (with_reducible first | refine zq1 fun _ => ?_ | refine zq2 fun _ => ?_ | refine zq3 ?_) | ((first | refine zq4 ?_ | refine zq5 fun _ _ => ?_ | refine zq6 ?_); simp [-getElem?_pos, z0, z1, z2, z0]) | ((first | refine AWp.ret ?_ | refine AWp.skip ?_ | refine AWp.exit ?_); try simp only [thenP]) | (with_reducible refine zq7 ?_; simp only [blockP, thenP, reduceIte]) | with_reducible refine zq8 ?_)
        (first | refine Exec0.call [] cw ?_ rfl ?_ ?_ | refine Exec.call [] cw ?_ rfl ?_ ?_); (focus simp [-getElem?_pos, z0]); (focus simp [-getElem?_pos, z0, z1, z2, z0]); simp [-getElem?_pos, z0, z1, z2, z0]
        repeat (first | (with_reducible first | refine zq1 fun _ => ?_ | refine zq2 fun _ => ?_ | refine zq3 ?_) | ((first | refine zq4 ?_ | refine zq5 fun _ _ => ?_ | refine zq6 ?_); simp [-getElem?_pos, z0, z1, z2, z0]) | ((first | refine AWp.ret ?_ | refine AWp.skip ?_ | refine AWp.exit ?_); try simp only [thenP]) | (with_reducible refine zq7 ?_; simp only [blockP, thenP, reduceIte]) | with_reducible refine zq8 ?_)
        (first | refine RR.ret ?_ | refine RR.normal ?_); simp [z0]
end Go.Proofs.Ytgiomfamlbmpcaa.Eng

namespace Go.Proofs.Ytgiomfamlbmpcaa.honeKeener
open Go.ChangeShapes Go.WideShapes Go.ChangeAt Go.RowKit Go.Deep
theorem own : ownKnob Try.prog.godebug = none := by kernel_rfl
theorem kids : Kids Try.prog (· < Try.prog.types.size) := kids_rows (by kernel_rfl) (by kernel_rfl)
theorem full : ∀ t e, t < Try.prog.types.size → Try.prog.underlying t = some (.slice e) → 0 < Try.prog.cellsOf e := slices_full_of Try.prog (by kernel_rfl)
theorem rowed : ∀ t ∈ Try.f10.params.toList, t < Try.prog.types.size := of_decide_eq_true (by kernel_rfl)
set_option maxRecDepth 100000 in
set_option maxHeartbeats 1000000 in
theorem lifted (os : Os) (started : os.Started) (H : Type) (enc : TypeId × Value → H) :
    ReturnsInHanded {} Try.checked os 10 .any (Rows.honeKeenerSpec.pre6 enc Try.prog Try.f10 Rows.honeKeenerRow.domain false) (Rows.honeKeenerSpec.post enc Try.prog Try.f10 false true false false) := by
  refine returnsInHanded_of_change (C := Try.checked) own started (by kernel_rfl) Try.func10
    (ChangeSpec.witness6 (enc := enc) (C := Try.checked) false ⟨#[], #[.slice none 0 0, .agg #[.int .i64 0, .int .i64 0], .agg #[.int .i64 0, .int .i64 0], .agg #[.int .u8 0, .int .u8 0], .agg #[.int .u8 0, .int .u8 0], .agg #[.int .i64 0, .int .i64 0, .int .i64 0], .slice none 0 0], []⟩ 8 (by kernel_rfl) (by kernel_rfl) (by kernel_rfl) (by kernel_rfl)) ?_
  intro W base args ds gs before hval0 hW hcnd _
  have hval : ∀ (j : Nat) t v, Try.f10.params[j]? = some t → args[j]? = some v → Value.okWide Try.prog W .any base t v := hval0
  have hW' := hW
  obtain ⟨p, q, hA0, hV, rfl, hfz, hnd⟩ := hW
  have hA : DataW.TrodAll enc Try.prog W 0 (fun _ => true) true Try.f10.params.toList args.toList ds p := hA0
  have hAk := hA
  rw [Try.params10] at hA hval
  obtain ⟨v0, vs0, d0, ds0, a0, b0, e0, f0, rfl, h0, t0⟩ := trodAll_cons hA
  obtain ⟨v1, vs1, d1, ds1, a1, b1, e1, f1, rfl, h1, t1⟩ := trodAll_cons t0
  obtain ⟨v2, vs2, d2, ds2, a2, b2, e2, f2, rfl, h2, t2⟩ := trodAll_cons t1
  obtain ⟨v3, vs3, d3, ds3, a3, b3, e3, f3, rfl, h3, t3⟩ := trodAll_cons t2
  obtain ⟨v4, vs4, d4, ds4, a4, b4, e4, f4, rfl, h4, t4⟩ := trodAll_cons t3
  obtain ⟨v5, vs5, d5, ds5, a5, b5, e5, f5, rfl, h5, t5⟩ := trodAll_cons t4
  obtain ⟨v6, vs6, d6, ds6, a6, b6, e6, f6, rfl, h6, t6⟩ := trodAll_cons t5
  obtain ⟨en, fn, rfl⟩ := trodAll_nil t6
  subst en
  subst fn
  subst e6
  subst f6
  subst e5
  subst f5
  subst e4
  subst f4
  subst e3
  subst f3
  subst e2
  subst f2
  subst e1
  subst f1
  subst f0
  have ea : args = #[v0, v1, v2, v3, v4, v5, v6] := by rw [← Array.toList_inj]; exact e0
  subst ea
  clear e0
  obtain ⟨rfl, rfl⟩ := trodVars_none hV
  clear hA0 hval0 hA
  simp only [List.append_nil] at hW' hAk
  have o0 := hval 0 _ _ rfl rfl
  have o1 := hval 1 _ _ rfl rfl
  have o2 := hval 2 _ _ rfl rfl
  have o3 := hval 3 _ _ rfl rfl
  have o4 := hval 4 _ _ rfl rfl
  have o5 := hval 5 _ _ rfl rfl
  have o6 := hval 6 _ _ rfl rfl
  clear hval
  obtain ⟨D0, s0, r0⟩ := Eng.open_sh (n := 9) (.sl Eng.shStone) (by kernel_rfl) o0 h0
  obtain ⟨D1, s1, r1⟩ := Eng.open_sh (n := 9) (Eng.shEdge) (by kernel_rfl) o1 h1
  obtain ⟨D2, s2, r2⟩ := Eng.open_sh (n := 9) (Eng.shEdge) (by kernel_rfl) o2 h2
  obtain ⟨D3, s3, r3⟩ := Eng.open_sh (n := 9) (.arr 2 (.int .u8)) (by kernel_rfl) o3 h3
  obtain ⟨D4, s4, r4⟩ := Eng.open_sh (n := 9) (.arr 2 (.int .u8)) (by kernel_rfl) o4 h4
  obtain ⟨D5, s5, r5⟩ := Eng.open_sh (n := 9) (Eng.shStone) (by kernel_rfl) o5 h5
  obtain ⟨D6, s6, r6⟩ := Eng.open_sh (n := 9) (.sl (.int .i64)) (by kernel_rfl) o6 h6
  obtain ⟨l, rfl⟩ := Eng.box_in s0
  obtain ⟨e, rfl⟩ := Eng.edge_in s1
  obtain ⟨g, rfl⟩ := Eng.edge_in s2
  obtain ⟨k0, k1, rfl, hk0, hk1⟩ := Eng.arr2_in s3
  obtain ⟨u0, u1, rfl, hu0, hu1⟩ := Eng.arr2_in s4
  obtain ⟨s, rfl⟩ := Eng.stn_in s5
  obtain ⟨t, rfl⟩ := Eng.ints_in s6
  refine Calls.mono (Eng.law_true (Eng.honeKeener_c l e g k0 k1 u0 u1 hk0 hk1 hu0 hu1 s t) rfl (Eng.reps_cons r0 (Eng.reps_cons r1 (Eng.reps_cons r2 (Eng.reps_cons r3 (Eng.reps_cons r4 (Eng.reps_cons r5 (Eng.reps_cons r6 Eng.reps_nil)))))))) fun e W' ⟨he, hb⟩ => ?_
  subst he
  exact ⟨_, rfl, post_later (pv := []) hW' (List.append_nil _).symm (fun _ _ _ => (trodAll_cons_mk (shut_bool Try.underlying4 _) trodAll_mk0))
    (fun sp hsp => Eng.args_later' kids full rowed hAk hb hsp) (fun _ _ => rfl) (ok_one (by kernel_rfl) rfl (okWide_bool_mk Try.underlying4 _)) hb⟩
theorem over : Rows.honeKeenerRow.holds Try.pinned (OpenSpec.ofChange Rows.honeKeenerSpec) :=
  OpenClaim.holds_of_wide 10 Try.f10 rfl rfl rfl rfl rfl rfl rfl ⟨rfl, rfl, rfl, rfl, rfl⟩ rfl rfl rfl rfl rfl (by kernel_rfl) Try.func10 (by kernel_rfl)
    (of_decide_eq_true (by kernel_rfl)) (by unfold Func.isWrapper; first | (rw [if_pos (by decide +kernel)]; kernel_rfl) | (rw [if_neg (by decide +kernel)]; exact ⟨rfl, rfl⟩))
    (fun os started H enc _ => lifted os started H enc)
theorem proved : Rows.HoneKeenerSaid := over
end Go.Proofs.Ytgiomfamlbmpcaa.honeKeener
