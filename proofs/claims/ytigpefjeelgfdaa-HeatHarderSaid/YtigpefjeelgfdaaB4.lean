/-
  A part of the texts that the claim builds on: see the last one.
-/
import Derived.Test.YtigpefjeelgfdaaB3
set_option linter.unusedSimpArgs false
set_option linter.unusedVariables false
/-
  Layer 1, plain: the rows of those histories that agree with what was measured are ranges.
-/
namespace Go.Proofs.Ytigpefjeelgfdaa
open Go.RowKit

theorem leadPart_iff {ks : List Kink} {p : Nat → Bool} {j : Nat} : ∀ {k : Nat}, leadPart ks p k j = true ↔ ∃ t, t < k ∧ meetsB p (strAt ks t).t1.toNat (strAt ks t).t2.toNat = true ∧ (strAt ks t).f1.toNat ≤ j ∧ j ≤ (strAt ks t).f2.toNat
  | 0 => by simp [leadPart]
  | k + 1 => by
    have ih := leadPart_iff (ks := ks) (p := p) (j := j) (k := k)
    unfold leadPart
    by_cases h : meetsB p (strAt ks k).t1.toNat (strAt ks k).t2.toNat = true
    · rw [if_pos h]
      simp only [Bool.or_eq_true, decide_eq_true_eq, ih]
      constructor
      · rintro (⟨t, h1, h2⟩ | h1)
        · exact ⟨t, by omega, h2⟩
        · exact ⟨k, by omega, h, h1⟩
      · rintro ⟨t, h1, h2, h3⟩
        by_cases e : t = k
        · subst e; exact .inr h3
        · exact .inl ⟨t, by omega, h2, h3⟩
    · rw [if_neg h, ih]
      constructor
      · rintro ⟨t, h1, h2⟩; exact ⟨t, by omega, h2⟩
      · rintro ⟨t, h1, h2, h3⟩
        by_cases e : t = k
        · subst e; exact absurd h2 h
        · exact ⟨t, by omega, h2, h3⟩
/-- The stretch that a hardness lies in is that of its kink. -/
theorem str_of {ks : List Kink} (h1 : kinksOk ks = true) (h0 : 0 < ks.length) {j : Nat} (hj : j ≤ 1000) :
    ∃ a, a < ks.length ∧ aft ks j = ((kk ks a).lo, (kk ks a).hi) ∧ ∀ t, t < ks.length → ((strAt ks t).f1.toNat ≤ j ∧ j ≤ (strAt ks t).f2.toNat ↔ t = a) := by
  have hz := frm_zero h1 h0
  obtain ⟨a, a1, a2, a3, a4⟩ := aftTo_idx (n := (j : Int)) h0 (by omega) ks.length h0 (Nat.le_refl _)
  refine ⟨a, a1, a4, fun t ht => ?_⟩
  have vt := kk_val h1 ht
  have k1000 : (1000 : Int).toNat = 1000 := rfl
  by_cases hn : t + 1 < ks.length
  · have vn := kk_val h1 hn
    have hlt := frm_lt h1 (show t < t + 1 by omega) hn
    simp only [strAt, if_pos hn]
    constructor
    · rintro ⟨g1, g2⟩
      rcases Nat.lt_trichotomy t a with g | g | g
      · by_cases e : t + 1 = a
        · subst e; omega
        · have := frm_lt h1 (show t + 1 < a by omega) a1; omega
      · exact g
      · have := a3 t g ht; omega
    · rintro rfl
      have := a3 (t + 1) (by omega) hn
      omega
  · simp only [strAt, if_neg hn]
    rw [k1000]
    constructor
    · rintro ⟨g1, g2⟩
      rcases Nat.lt_trichotomy t a with g | g | g
      · omega
      · exact g
      · have := a3 t g ht; omega
    · rintro rfl
      omega
theorem lead_iv {ks : List Kink} (h1 : kinksOk ks = true) (h0 : 0 < ks.length) {lo hi j : Nat} (hl : lo ≤ hi) (hj : j ≤ 1000) :
    leadPart ks (ivP lo hi) ks.length j = true ↔ (aft ks j).1.toNat ≤ hi ∧ lo ≤ (aft ks j).2.toNat := by
  obtain ⟨a, a1, a2, a3⟩ := str_of h1 h0 hj
  have va := kk_val h1 a1
  rw [leadPart_iff, a2]
  constructor
  · rintro ⟨t, t1, t2, t3⟩
    obtain rfl := (a3 t t1).1 t3
    rw [meets_iv] at t2
    simp only [strAt] at t2
    exact ⟨t2.2.2.1, t2.2.2.2⟩
  · rintro ⟨g1, g2⟩
    refine ⟨a, a1, ?_, (a3 a a1).2 rfl⟩
    rw [meets_iv]
    simp only [strAt]
    exact ⟨by omega, hl, g1, g2⟩

/-! ### the rows, back from the last -/
theorem back_old (x : Works) (ways : List Int) (R : Nat → Nat → Bool) (n : Nat) : ∀ t i, i < n - t → backR x ways R n t i = R i
  | 0, i, _ => rfl
  | t + 1, i, h => by
    funext j
    have hne : ¬ i = n - t - 1 := by omega
    rw [backR, keepR, if_neg hne, back_old x ways R n t i (by omega)]
theorem back_keep (x : Works) (ways : List Int) (R : Nat → Nat → Bool) (n : Nat) (t i : Nat) (hi : n - t ≤ i) : ∀ d, t + d ≤ n → backR x ways R n (t + d) i = backR x ways R n t i
  | 0, _ => rfl
  | d + 1, h => by
    funext j
    have hne : ¬ i = n - (t + d) - 1 := by omega
    rw [← Nat.add_assoc, backR, keepR, if_neg hne, back_keep x ways R n t i hi d (by omega)]
theorem had_last (x : Works) (ways : List Int) (R : Nat → Nat → Bool) (q : Nat → Bool) (j : Nat) : hadRows x ways R q x.steps.length j = (R x.steps.length j && q j) := by
  unfold hadRows
  have := back_keep x ways (keepR R x.steps.length q) x.steps.length 0 x.steps.length (by omega) x.steps.length (by omega)
  rw [Nat.zero_add] at this
  rw [this]
  show keepR R x.steps.length q x.steps.length j = _
  rw [keepR, if_pos rfl]
theorem had_step (x : Works) (ways : List Int) (R : Nat → Nat → Bool) (q : Nat → Bool) {s : Nat} (hs : s < x.steps.length) (j : Nat) :
    hadRows x ways R q s j = (R s j && leadPart (wayOf x ways s) (hadRows x ways R q (s + 1)) (wayOf x ways s).length j) := by
  unfold hadRows
  generalize hR : keepR R x.steps.length q = R1
  have h1 := back_keep x ways R1 x.steps.length (x.steps.length - s) s (by omega) s (by omega)
  rw [show x.steps.length - s + s = x.steps.length by omega] at h1
  have h2 := back_keep x ways R1 x.steps.length (x.steps.length - (s + 1)) (s + 1) (by omega) (s + 1) (by omega)
  rw [show x.steps.length - (s + 1) + (s + 1) = x.steps.length by omega] at h2
  rw [h1, h2, backR_step x ways R1 hs, keepR, if_pos rfl, back_old x ways R1 x.steps.length (x.steps.length - (s + 1)) s (by omega), ← hR, keepR, if_neg (by omega)]
theorem iv_of_convex {p : Nat → Bool} (h1 : ∃ j, p j = true) (h2 : ∀ j, p j = true → j ≤ 1000) (h3 : ∀ a b c, a ≤ b → b ≤ c → p a = true → p c = true → p b = true) : (endsOf p).1 ≤ (endsOf p).2 ∧ (endsOf p).2 ≤ 1000 ∧ p = ivP (endsOf p).1 (endsOf p).2 := by
  have he := endsUpto_is p 1001 (by omega)
  unfold endsOf
  rcases he with ⟨e1, _⟩ | ⟨e1, e2, e3, e4, e5⟩
  · obtain ⟨j, hj⟩ := h1
    have := h2 j hj
    rw [e1 j (by omega)] at hj
    cases hj
  · have h12 := e5 _ e2 e1
    refine ⟨by omega, by omega, ?_⟩
    funext j
    rw [Bool.eq_iff_iff]
    simp only [ivP, decide_eq_true_eq]
    constructor
    · intro hj
      exact e5 j (by have := h2 j hj; omega) hj
    · rintro ⟨g1, g2⟩
      exact h3 _ j _ g1 g2 e1 e3

/-- A row that is a range within 1000. -/
def IsIv (p : Nat → Bool) : Prop := (endsOf p).1 ≤ (endsOf p).2 ∧ (endsOf p).2 ≤ 1000 ∧ p = ivP (endsOf p).1 (endsOf p).2
theorem rowOf_sub {x : Works} {m : Nat} {ways : List Int} (ok : RecOk x m ways) {s j : Nat} (hs : s ≤ x.steps.length) : rowOf x ways (barP x m) s j = true ↔ (rngN x m ways s).1 ≤ j ∧ (j : Int) ≤ (rngN x m ways s).2 := by
  have hv := rngN_val ok s hs
  rw [rowOf_iv ok s hs]
  simp only [ivP, decide_eq_true_eq]
  omega
/-- **Each row of the histories that agree is a range.** -/
theorem had_iv {x : Works} {m : Nat} {ways : List Int} (ok : RecOk x m ways) {mlo mhi : Int} (hany : hadAny x (rowOf x ways (barP x m)) (meas mlo mhi) = true) :
    ∀ d s, s + d = x.steps.length → IsIv (hadRows x ways (rowOf x ways (barP x m)) (meas mlo mhi) s) ∧ ∀ j, hadRows x ways (rowOf x ways (barP x m)) (meas mlo mhi) s j = true → rowOf x ways (barP x m) s j = true
  | 0, s, hs => by
    obtain rfl : s = x.steps.length := by omega
    have hsub : ∀ j, hadRows x ways (rowOf x ways (barP x m)) (meas mlo mhi) x.steps.length j = true → rowOf x ways (barP x m) x.steps.length j = true := fun j hj => by
      rw [had_last, Bool.and_eq_true] at hj
      exact hj.1
    refine ⟨iv_of_convex ?_ ?_ ?_, hsub⟩
    · obtain ⟨j, hj, h⟩ := anyRow_iff.1 hany
      rw [keepR, if_pos rfl] at h
      exact ⟨j, by rw [had_last]; exact h⟩
    · intro j hj
      have h1 := (rowOf_sub ok (Nat.le_refl _)).1 (hsub j hj)
      have h2 := rngN_val ok _ (Nat.le_refl x.steps.length)
      omega
    · intro a b c h1 h2 h3 h4
      rw [had_last, Bool.and_eq_true, rowOf_sub ok (Nat.le_refl _)] at h3 h4 ⊢
      simp only [meas, inB, decide_eq_true_eq] at h3 h4 ⊢
      omega
  | d + 1, s, hs => by
    have hs' : s < x.steps.length := by omega
    obtain ⟨⟨i1, i2, i3⟩, i4⟩ := had_iv ok hany d (s + 1) (by omega)
    have hw := way_ok (wayOf_err ok hs')
    generalize hH : hadRows x ways (rowOf x ways (barP x m)) (meas mlo mhi) (s + 1) = H at i1 i2 i3 i4
    obtain ⟨lo, hlo⟩ : ∃ lo, (endsOf H).1 = lo := ⟨_, rfl⟩
    obtain ⟨hi, hhi⟩ : ∃ hi, (endsOf H).2 = hi := ⟨_, rfl⟩
    rw [hlo, hhi] at i1 i3
    have hstep : ∀ j, hadRows x ways (rowOf x ways (barP x m)) (meas mlo mhi) s j = (rowOf x ways (barP x m) s j && leadPart (wayOf x ways s) (ivP lo hi) (wayOf x ways s).length j) := fun j => by rw [had_step x ways _ _ hs', hH, ← i3]
    have hsub : ∀ j, hadRows x ways (rowOf x ways (barP x m)) (meas mlo mhi) s j = true → rowOf x ways (barP x m) s j = true := fun j hj => by
      rw [hstep, Bool.and_eq_true] at hj
      exact hj.1
    have h1000 : ∀ j, rowOf x ways (barP x m) s j = true → j ≤ 1000 := fun j hj => by
      have h1 := (rowOf_sub ok (Nat.le_of_lt hs')).1 hj
      have h2 := rngN_val ok s (Nat.le_of_lt hs')
      omega
    refine ⟨iv_of_convex ?_ (fun j hj => h1000 j (hsub j hj)) ?_, hsub⟩
    · have h1 := i4 lo (by rw [i3]; simp [ivP, i1])
      have h2 : rowPart (wayOf x ways s) (rowOf x ways (barP x m) s) (wayOf x ways s).length lo = true := h1
      obtain ⟨t, t1, t2, t3⟩ := rowPart_iff.1 h2
      obtain ⟨j, j1, j2, j3⟩ := meetsB_iff.1 t2
      refine ⟨j, ?_⟩
      rw [hstep, Bool.and_eq_true]
      refine ⟨j3, leadPart_iff.2 ⟨t, t1, meetsB_iff.2 ⟨lo, t3.1, t3.2, by simp [ivP, i1]⟩, j1, j2⟩⟩
    · intro a b c h1 h2 h3 h4
      rw [hstep, Bool.and_eq_true] at h3 h4 ⊢
      have ha := h1000 a h3.1
      have hc := h1000 c h4.1
      rw [lead_iv hw.2.2.1 hw.1 i1 ha] at h3
      rw [lead_iv hw.2.2.1 hw.1 i1 hc] at h4
      rw [lead_iv hw.2.2.1 hw.1 i1 (show b ≤ 1000 by omega)]
      have m1 := aft_mono hw.2.2.1 hw.2.2.2 hw.1 (lo := (a : Int)) (hi := (b : Int)) (by omega) (by omega)
      have m2 := aft_mono hw.2.2.1 hw.2.2.2 hw.1 (lo := (b : Int)) (hi := (c : Int)) (by omega) (by omega)
      rw [rowOf_sub ok (Nat.le_of_lt hs')] at h3 h4 ⊢
      omega
end Go.Proofs.Ytigpefjeelgfdaa

/-
  Walks of layer 1's statements: lists of lists, ranges and kinks that are laid.
-/
namespace Go.Proofs.Ytigpefjeelgfdaa
open Go.RowKit

/-- A list of numbers in one cell. -/
def ListAt (B : Nat) (w : World) (b off : Nat) (l : List Int) : Prop := ∃ v, w.cell? ⟨b, off, none⟩ = some v ∧ Ints .i64 w B v l
abbrev ListsA (w : World) (B : Nat) (A : Option Addr) (l : List (List Int)) : Prop := SLa (ListAt B) 1 w B A l
theorem listsA {w : World} {B : Nat} {A : Option Addr} {l : List (List Int)} (h : ListsA w B A l) {i : Nat} (hi : i < l.length) :
    ∃ b off A' c' ns, A = some ⟨b, off, none⟩ ∧ b < B ∧ Hid (l[i]? = some ns) ∧ w.cell? ⟨b, off + i, none⟩ = some (.slice A' ns.length c') ∧ ns.length ≤ c' ∧ c' ≤ 9223372036854775807 ∧ IntsA .i64 w B A' ns := by
  obtain ⟨b, off, x, h1, h2, h3, v, h4, A', c', h5, h6, h7, h8⟩ := SLa.at_ h hi
  subst h5
  exact ⟨b, off, A', c', x, h1, h2, h3, by simpa using h4, h6, h7, h8⟩
theorem lists_on {w w' : World} {B n : Nat} {A : Option Addr} {l : List (List Int)} (h : ListsA w B A l) (hb : Below n w w') (hB : B ≤ n) : ListsA w' B A l :=
  SLa.keep h (Nat.le_refl _) fun _ _ _ hlt ⟨u, h1, h2⟩ => ⟨u, ((Same.of_below (hb.mono hB)).cell hlt _).trans h1, h2.keep (Same.of_below (hb.mono hB)) (Nat.le_refl _)⟩

set_option maxRecDepth 100000 in
set_option maxHeartbeats 1000000 in
theorem lawLists_any (Aa Ab : Option Addr) (ca cb : Nat) (la lb : List (List Int)) (B : Nat) (w : World) (ha : ListsA w B Aa la) (hb : ListsA w B Ab lb) (hB : B ≤ w.heap.size) (h1 : la.length ≤ ca) (h2 : ca ≤ 9223372036854775807) (h3 : lb.length ≤ cb) (h4 : cb ≤ 9223372036854775807) :
    Calls Try.prog 40 #[.slice Aa la.length ca, .slice Ab lb.length cb] w fun e w' => e = .returned (.bool (decide (la = lb))) ∧ Below w.heap.size w w' := by
  by_cases hl : la.length = lb.length
  · have hl' : ((la.length : Int) != (lb.length : Int)) = false := by simp [hl]
    have HL := Lib.hid hl
    clear hl
    go_enter Try.func40, Try.ntmps40
    go_wp2_with fail
    go_loopw [5] (fun i wr => ∃ (k : Nat), k ≤ la.length ∧ i = .int .i64 k ∧ Hid (∀ (i : Nat) x y, i < k → la[i]? = some x → lb[i]? = some y → x = y) ∧ Below w.heap.size w wr)
      (fun i _ => la.length - (intOf i).toNat)
    case atStart => exact ⟨0, by omega, rfl, Lib.hid (fun i x y h => absurd h (by omega)), Below.refl _ _⟩
    case round =>
      obtain ⟨k, hk, rfl, hup, hbl⟩ := hrel
      by_cases hlt : k < la.length
      · obtain ⟨b, off, Ax, cx, x, rfl, hbb, hx, d0, lx1, lx2, hxs⟩ := listsA (lists_on ha hbl hB) hlt
        obtain ⟨b', off', Ay, cy, y, rfl, hbb', hy, d0', ly1, ly2, hys⟩ := listsA (lists_on hb hbl hB) (show k < lb.length by rw [← HL.out]; exact hlt)
        have z0 := hbl.size
        have z1 : b < wr.heap.size := by omega
        have z2 : b' < wr.heap.size := by omega
        have i1 : (k : Int) < (la.length : Int) := by omega
        have i2 : (k : Int) < (lb.length : Int) := by rw [← HL.out]; exact i1
        by_cases e : x = y
        · subst e
          have hcall : ∀ V, Below wr.heap.size wr V → Calls Try.prog 39 #[.slice Ax x.length cx, .slice Ay x.length cy] V fun e w' => e = .returned (.bool true) ∧ Below V.heap.size V w' := fun V hV => by
            have := lawInts_any Ax Ay cx cy x x B V (ints_on hxs hV (by omega)) (ints_on hys hV (by omega)) (by have := hV.size; omega) lx1 lx2 ly1 ly2
            rw [decide_eq_true rfl] at this
            exact this
          have HC := Lib.hid hcall
          clear hcall
          go_wp2_with fail
          refine wp_region_later (by kernel_rfl) (by kernel_rfl) ?_; have _hl := later_reads (wr); (repeat (go_big_quiet_step ((go_at_call 39; exact LaterW.callsB (fun V hV => HC.out V hV))))); refine wpQuiet_nil ?_; intro w2 hw'; have hb_w2 := later_below hw'; clear hw' _hl
          go_wp2_with fail
          go_roundw
          case rel =>
            refine ⟨k + 1, hlt, by go_num, Lib.hid (fun i p q hi hp hq => ?_), hbl.trans (hb_w2.mono z0)⟩
            rcases Nat.lt_or_ge i k with h | h
            · exact hup.out i p q h hp hq
            · obtain rfl : i = k := by omega
              have hx' := hx.out
              have hy' := hy.out
              rw [hp] at hx'
              rw [hq] at hy'
              injection hx' with hx'
              injection hy' with hy'
              rw [hx', hy']
          case measure => simp only [intOf]; omega
        · have hcall : ∀ V, Below wr.heap.size wr V → Calls Try.prog 39 #[.slice Ax x.length cx, .slice Ay y.length cy] V fun e w' => e = .returned (.bool false) ∧ Below V.heap.size V w' := fun V hV => by
            have := lawInts_any Ax Ay cx cy x y B V (ints_on hxs hV (by omega)) (ints_on hys hV (by omega)) (by have := hV.size; omega) lx1 lx2 ly1 ly2
            rw [decide_eq_false e] at this
            exact this
          have HC := Lib.hid hcall
          clear hcall
          have hne : Hid (decide (la = lb) = false) := by
            refine Lib.hid (decide_eq_false fun h => e ?_)
            have hx' := hx.out
            rw [h, hy.out] at hx'
            injection hx' with hx'
            exact hx'.symm
          go_wp2_with fail
          refine wp_region_later (by kernel_rfl) (by kernel_rfl) ?_; have _hl := later_reads (wr); (repeat (go_big_quiet_step ((go_at_call 39; exact LaterW.callsB (fun V hV => HC.out V hV))))); refine wpQuiet_nil ?_; intro w2 hw'; have hb_w2 := later_below hw'; clear hw' _hl
          go_wp2_with fail
          go_ret
          exact ⟨ret_bool hne.out.symm, hbl.trans (hb_w2.mono z0)⟩
      · obtain rfl : k = la.length := by omega
        have he : Hid (decide (la = lb) = true) := Lib.hid (decide_eq_true (list_eq_of HL.out fun i x y hx hy => hup.out i x y (List.getElem?_eq_some_iff.1 hx).1 hx hy))
        go_wp2_with fail
        go_ret
        exact ⟨ret_bool he.out.symm, hbl⟩
  · have hl' : ((la.length : Int) != (lb.length : Int)) = true := by simp; omega
    have hne : Hid (decide (la = lb) = false) := Lib.hid (decide_eq_false fun h => hl (by rw [h]))
    clear hl
    go_enter Try.func40, Try.ntmps40
    go_wp2_with fail
    go_ret
    exact ⟨ret_bool hne.out.symm, Below.refl _ _⟩

set_option maxHeartbeats 400000 in
theorem rg_any (lo hi : Int) (w : World) : Calls Try.prog 48 #[.int .i64 lo, .int .i64 hi] w fun e w' => e = .returned (.agg #[.int .i64 lo, .int .i64 hi]) ∧ Below w.heap.size w w' := by
  go_enter Try.func48, Try.ntmps48
  go_wp2
  refine bodyPost_ret (v := .agg #[.int .i64 lo, .int .i64 hi]) (by simp [results, Try.results48, go_sem, *]) rfl ?_
  exact ⟨rfl, (by repeat (first | (with_reducible assumption) | (with_reducible exact Below.refl _ _) | ((with_reducible refine Below.alloc ?_ ?_ _); rotate_left; (focus (first | omega | (simp only [World.size_alloc, World.size_setCell, World.size_drew, World.heap_drewN]; first | done | omega)))) | ((with_reducible refine Below.setCell ?_ ?_ _); rotate_left; (focus (first | omega | (simp only [World.size_alloc, World.size_setCell, World.size_drew, World.heap_drewN]; first | done | omega)))) | (with_reducible refine below_drewN ?_ _) | (with_reducible refine Below.drew ?_) | ((with_reducible refine Below.trans ?_ (Below.mono (by assumption) ?_)); rotate_left; (focus (first | omega | (simp only [World.size_alloc, World.size_setCell, World.size_drew, World.heap_drewN]; first | done | omega))))))⟩
set_option maxHeartbeats 400000 in
theorem kink_any (f lo hi : Int) (w : World) : Calls Try.prog 86 #[.int .i64 f, .int .i64 lo, .int .i64 hi] w fun e w' => e = .returned (.agg #[.int .i64 f, .int .i64 lo, .int .i64 hi]) ∧ Below w.heap.size w w' := by
  go_enter Try.func86, Try.ntmps86
  go_wp2_with (go_at_call 48; refine (rg_any lo hi _).mono ?_; rintro e w1 ⟨rfl, hb1⟩; have hbx := Box.below (Box.new w 93 _) hb1 (by simp); obtain ⟨_hr1, _hr2⟩ := below_reads hb1; have _hz := Below.size hb1; (try simp only [World.size_alloc, World.size_setCell, World.size_drew, World.heap_drewN] at _hz); obtain ⟨_hr3, _hr4⟩ := below_reads (show Below w.heap.size w w1 from (by repeat (first | (with_reducible assumption) | (with_reducible exact Below.refl _ _) | ((with_reducible refine Below.alloc ?_ ?_ _); rotate_left; (focus (first | omega | (simp only [World.size_alloc, World.size_setCell, World.size_drew, World.heap_drewN]; first | done | omega)))) | ((with_reducible refine Below.setCell ?_ ?_ _); rotate_left; (focus (first | omega | (simp only [World.size_alloc, World.size_setCell, World.size_drew, World.heap_drewN]; first | done | omega)))) | (with_reducible refine below_drewN ?_ _) | (with_reducible refine Below.drew ?_) | ((with_reducible refine Below.trans ?_ (Below.mono (by assumption) ?_)); rotate_left; (focus (first | omega | (simp only [World.size_alloc, World.size_setCell, World.size_drew, World.heap_drewN]; first | done | omega))))))); have _q0 : w.heap.size < w1.heap.size := (by omega))
  refine bodyPost_ret (v := .agg #[.int .i64 f, .int .i64 lo, .int .i64 hi]) (by simp [results, Try.results86, go_sem, *]) rfl ?_
  exact ⟨rfl, (by repeat (first | (with_reducible assumption) | (with_reducible exact Below.refl _ _) | ((with_reducible refine Below.alloc ?_ ?_ _); rotate_left; (focus (first | omega | (simp only [World.size_alloc, World.size_setCell, World.size_drew, World.heap_drewN]; first | done | omega)))) | ((with_reducible refine Below.setCell ?_ ?_ _); rotate_left; (focus (first | omega | (simp only [World.size_alloc, World.size_setCell, World.size_drew, World.heap_drewN]; first | done | omega)))) | (with_reducible refine below_drewN ?_ _) | (with_reducible refine Below.drew ?_) | ((with_reducible refine Below.trans ?_ (Below.mono (by assumption) ?_)); rotate_left; (focus (first | omega | (simp only [World.size_alloc, World.size_setCell, World.size_drew, World.heap_drewN]; first | done | omega))))))⟩
set_option maxHeartbeats 400000 in
theorem way_laid (v : Value) (A : Option Addr) (n c : Nat) (hv : v = .slice A n c) (w : World) : Calls Try.prog 85 #[v] w fun e w' => e = .returned (.agg #[v]) ∧ Below w.heap.size w w' := by
  subst hv
  go_enter Try.func85, Try.ntmps85
  go_wp2
  refine bodyPost_ret (v := .agg #[.slice A n c]) (by simp [results, Try.results85, go_sem, *]) rfl ?_
  exact ⟨rfl, (by repeat (first | (with_reducible assumption) | (with_reducible exact Below.refl _ _) | ((with_reducible refine Below.alloc ?_ ?_ _); rotate_left; (focus (first | omega | (simp only [World.size_alloc, World.size_setCell, World.size_drew, World.heap_drewN]; first | done | omega)))) | ((with_reducible refine Below.setCell ?_ ?_ _); rotate_left; (focus (first | omega | (simp only [World.size_alloc, World.size_setCell, World.size_drew, World.heap_drewN]; first | done | omega)))) | (with_reducible refine below_drewN ?_ _) | (with_reducible refine Below.drew ?_) | ((with_reducible refine Below.trans ?_ (Below.mono (by assumption) ?_)); rotate_left; (focus (first | omega | (simp only [World.size_alloc, World.size_setCell, World.size_drew, World.heap_drewN]; first | done | omega))))))⟩
set_option maxHeartbeats 400000 in
theorem step_laid (v : Value) (A : Option Addr) (n c : Nat) (hv : v = .slice A n c) (w : World) : Calls Try.prog 84 #[v] w fun e w' => e = .returned (.agg #[v]) ∧ Below w.heap.size w w' := by
  subst hv
  go_enter Try.func84, Try.ntmps84
  go_wp2
  refine bodyPost_ret (v := .agg #[.slice A n c]) (by simp [results, Try.results84, go_sem, *]) rfl ?_
  exact ⟨rfl, (by repeat (first | (with_reducible assumption) | (with_reducible exact Below.refl _ _) | ((with_reducible refine Below.alloc ?_ ?_ _); rotate_left; (focus (first | omega | (simp only [World.size_alloc, World.size_setCell, World.size_drew, World.heap_drewN]; first | done | omega)))) | ((with_reducible refine Below.setCell ?_ ?_ _); rotate_left; (focus (first | omega | (simp only [World.size_alloc, World.size_setCell, World.size_drew, World.heap_drewN]; first | done | omega)))) | (with_reducible refine below_drewN ?_ _) | (with_reducible refine Below.drew ?_) | ((with_reducible refine Below.trans ?_ (Below.mono (by assumption) ?_)); rotate_left; (focus (first | omega | (simp only [World.size_alloc, World.size_setCell, World.size_drew, World.heap_drewN]; first | done | omega))))))⟩
set_option maxHeartbeats 400000 in
theorem recipe_laid (bar : Int) (A : Option Addr) (n c : Nat) (w : World) : Calls Try.prog 51 #[.int .i64 bar, .slice A n c] w fun e w' => e = .returned (.agg #[.int .i64 bar, .slice A n c]) ∧ Below w.heap.size w w' := by
  go_enter Try.func51, Try.ntmps51
  go_wp2
  refine bodyPost_ret (v := .agg #[.int .i64 bar, .slice A n c]) (by simp [results, Try.results51, go_sem, *]) rfl ?_
  exact ⟨rfl, (by repeat (first | (with_reducible assumption) | (with_reducible exact Below.refl _ _) | ((with_reducible refine Below.alloc ?_ ?_ _); rotate_left; (focus (first | omega | (simp only [World.size_alloc, World.size_setCell, World.size_drew, World.heap_drewN]; first | done | omega)))) | ((with_reducible refine Below.setCell ?_ ?_ _); rotate_left; (focus (first | omega | (simp only [World.size_alloc, World.size_setCell, World.size_drew, World.heap_drewN]; first | done | omega)))) | (with_reducible refine below_drewN ?_ _) | (with_reducible refine Below.drew ?_) | ((with_reducible refine Below.trans ?_ (Below.mono (by assumption) ?_)); rotate_left; (focus (first | omega | (simp only [World.size_alloc, World.size_setCell, World.size_drew, World.heap_drewN]; first | done | omega))))))⟩
end Go.Proofs.Ytigpefjeelgfdaa

/-
  Walks of layer 1's statements: the works of the chapter's examples.
-/
namespace Go.Proofs.Ytigpefjeelgfdaa
open Go.RowKit

def houseX : Works := ⟨[(100, 170), (150, 300)], [[[⟨0, 400, 500⟩, ⟨180, 450, 600⟩], [⟨0, 300, 650⟩]], [[⟨0, 200, 300⟩, ⟨420, 280, 400⟩, ⟨550, 350, 480⟩]]]⟩
def RetHouse (w : World) (e : Ending) (w' : World) : Prop :=
  ∃ (Ab As : Option Addr) (cb cs : Nat), e = .returned (.agg #[.slice Ab houseX.bars.length cb, .slice As houseX.steps.length cs]) ∧ In w' w'.heap.size Ab As none cb cs 0 houseX [] ∧ Below w.heap.size w w'

theorem box_kinks {V : World} {p : Nat} {t : TypeId} {ks : List Kink} (h : Box V p t (ks.flatMap fun k => [Value.int .i64 k.frm, .int .i64 k.lo, .int .i64 k.hi]).toArray) : KinksA V V.heap.size (some ⟨p, 0, none⟩) ks := fun _ =>
  ⟨p, 0, rfl, h.lt, fun i x hi => by
    have hg := fun j hj => flatMap_get (fun k : Kink => [Value.int .i64 k.frm, .int .i64 k.lo, .int .i64 k.hi]) 3 (fun _ => rfl) ks i j x hi hj
    refine ⟨?_, ?_, ?_⟩
    · rw [h.cell]; simpa using hg 0 (by omega)
    · rw [h.cell]; simpa using hg 1 (by omega)
    · rw [h.cell]; simpa using hg 2 (by omega)⟩
theorem house_in {V : World} {p1 p2 p3 p4 p5 pb ps : Nat} (B1 : Box V p1 93 #[.int .i64 0, .int .i64 400, .int .i64 500, .int .i64 180, .int .i64 450, .int .i64 600]) (B2 : Box V p2 93 #[.int .i64 0, .int .i64 300, .int .i64 650])
    (B3 : Box V p3 28 #[.slice (some ⟨p1, 0, none⟩) 2 2, .slice (some ⟨p2, 0, none⟩) 1 1]) (B4 : Box V p4 93 #[.int .i64 0, .int .i64 200, .int .i64 300, .int .i64 420, .int .i64 280, .int .i64 400, .int .i64 550, .int .i64 350, .int .i64 480])
    (B5 : Box V p5 28 #[.slice (some ⟨p4, 0, none⟩) 3 3]) (Bb : Box V pb 33 #[.int .i64 100, .int .i64 170, .int .i64 150, .int .i64 300]) (Bs : Box V ps 88 #[.slice (some ⟨p3, 0, none⟩) 2 2, .slice (some ⟨p5, 0, none⟩) 1 1]) :
    In V V.heap.size (some ⟨pb, 0, none⟩) (some ⟨ps, 0, none⟩) none 2 2 0 houseX [] := by
  have k1 : Kinks V V.heap.size (.slice (some ⟨p1, 0, none⟩) 2 2) [⟨0, 400, 500⟩, ⟨180, 450, 600⟩] := ⟨_, 2, rfl, by simp, by omega, box_kinks B1⟩
  have k2 : Kinks V V.heap.size (.slice (some ⟨p2, 0, none⟩) 1 1) [⟨0, 300, 650⟩] := ⟨_, 1, rfl, by simp, by omega, box_kinks B2⟩
  have k4 : Kinks V V.heap.size (.slice (some ⟨p4, 0, none⟩) 3 3) [⟨0, 200, 300⟩, ⟨420, 280, 400⟩, ⟨550, 350, 480⟩] := ⟨_, 3, rfl, by simp, by omega, box_kinks B4⟩
  have w3 : WaysIn V V.heap.size (.slice (some ⟨p3, 0, none⟩) 2 2) [[⟨0, 400, 500⟩, ⟨180, 450, 600⟩], [⟨0, 300, 650⟩]] :=
    ⟨_, 2, rfl, by simp, by omega, fun _ => ⟨p3, 0, rfl, B3.lt, fun i x hi => by
      rcases i with _ | _ | i
      · simp at hi; subst hi; exact ⟨_, B3.cell 0, k1⟩
      · simp at hi; subst hi; exact ⟨_, B3.cell 1, k2⟩
      · simp at hi⟩⟩
  have w5 : WaysIn V V.heap.size (.slice (some ⟨p5, 0, none⟩) 1 1) [[⟨0, 200, 300⟩, ⟨420, 280, 400⟩, ⟨550, 350, 480⟩]] :=
    ⟨_, 1, rfl, by simp, by omega, fun _ => ⟨p5, 0, rfl, B5.lt, fun i x hi => by
      rcases i with _ | i
      · simp at hi; subst hi; exact ⟨_, B5.cell 0, k4⟩
      · simp at hi⟩⟩
  refine ⟨fun _ => ⟨pb, 0, rfl, Bb.lt, fun i x hi => ?_⟩, fun _ => ⟨ps, 0, rfl, Bs.lt, fun i x hi => ?_⟩, fun h => absurd h (by simp), by simp [houseX], by omega, by simp [houseX], by omega, by simp, by omega, Nat.le_refl _⟩
  · rcases i with _ | _ | i
    · simp [houseX] at hi; subst hi; exact ⟨Bb.cell 0, Bb.cell 1⟩
    · simp [houseX] at hi; subst hi; exact ⟨Bb.cell 2, Bb.cell 3⟩
    · simp [houseX] at hi
  · rcases i with _ | _ | i
    · simp [houseX] at hi; subst hi; exact ⟨_, Bs.cell 0, w3⟩
    · simp [houseX] at hi; subst hi; exact ⟨_, Bs.cell 1, w5⟩
    · simp [houseX] at hi

theorem house_end {w W V : World} {p1 p2 p3 p4 p5 pb ps : Nat} (hw0 : Below w.heap.size w W) (g : Below W.heap.size W V) (e1 : w.heap.size < p1) (e2 : w.heap.size < p2) (e3 : w.heap.size < p3) (e4 : w.heap.size < p4) (e5 : w.heap.size < p5)
    (B1 : Box V p1 93 #[.int .i64 0, .int .i64 400, .int .i64 500, .int .i64 180, .int .i64 450, .int .i64 600]) (B2 : Box V p2 93 #[.int .i64 0, .int .i64 300, .int .i64 650])
    (B3 : Box V p3 28 #[.slice (some ⟨p1, 0, none⟩) 2 2, .slice (some ⟨p2, 0, none⟩) 1 1]) (B4 : Box V p4 93 #[.int .i64 0, .int .i64 200, .int .i64 300, .int .i64 420, .int .i64 280, .int .i64 400, .int .i64 550, .int .i64 350, .int .i64 480])
    (B5 : Box V p5 28 #[.slice (some ⟨p4, 0, none⟩) 3 3]) (Bb : Box V pb 33 #[.int .i64 100, .int .i64 170, .int .i64 150, .int .i64 300]) (Bs : Box V ps 88 #[.slice (some ⟨p3, 0, none⟩) 2 2, .slice (some ⟨p5, 0, none⟩) 1 1])
    (q0 : w.heap.size < W.heap.size) (hb : W.heap.size ≤ pb) (hs : W.heap.size ≤ ps) {u1 u2 : Value} :
    RetHouse w (.returned (.agg #[.slice (some ⟨pb, 0, none⟩) 2 2, .slice (some ⟨ps, 0, none⟩) 2 2])) ((V.setCell ⟨w.heap.size, 0, none⟩ u1).setCell ⟨w.heap.size, 1, none⟩ u2) := by
  have far : ∀ {p : Nat} {t : TypeId} {cs : Array Value}, Box V p t cs → w.heap.size ≠ p → Box ((V.setCell ⟨w.heap.size, 0, none⟩ u1).setCell ⟨w.heap.size, 1, none⟩ u2) p t cs := fun h hne => Box.far (Box.far h (fun e => hne e.symm) _) (fun e => hne e.symm) _
  refine ⟨_, _, 2, 2, rfl, house_in (far B1 (by omega)) (far B2 (by omega)) (far B3 (by omega)) (far B4 (by omega)) (far B5 (by omega)) (far Bb (by omega)) (far Bs (by omega)), ?_⟩
  exact ((hw0.trans (g.mono (Nat.le_of_lt q0))).setCell (p := ⟨w.heap.size, 0, none⟩) (Nat.le_refl _) _).setCell (p := ⟨w.heap.size, 1, none⟩) (Nat.le_refl _) _

set_option maxRecDepth 100000 in
set_option maxHeartbeats 2000000 in
theorem house_any (w : World) : Calls Try.prog 52 #[] w (RetHouse w) := by
  go_enter Try.func52, Try.ntmps52
  go_wp2_with (first
    | (go_at_call 86; refine (kink_any _ _ _ _).mono ?_; rintro e k1 ⟨rfl, hk1⟩)
    | (go_at_call 85; refine (way_laid _ _ _ _ rfl _).mono ?_; rintro e y1 ⟨rfl, hy1⟩)
    | (go_at_call 84; refine (step_laid _ _ _ _ rfl _).mono ?_; rintro e s1 ⟨rfl, hs1⟩))
  rename_i ka ha kb hb ya hya kc hc yb hyb sa hsa kd hd ke he kK hK
  have z0 := ha.size
  have z1 := hb.size
  have z2 := hya.size
  have z3 := hc.size
  have z4 := hyb.size
  have z5 := hsa.size
  have z6 := hd.size
  have z7 := he.size
  have z8 := hk1.size
  have z9 := hy1.size
  have z10 := hs1.size
  simp only [World.size_alloc] at z0 z1 z2 z3 z4 z5 z6 z7 z8 z9 z10
  have hw0 : Below w.heap.size w (s1.alloc (.cells #[.slice (some ⟨y1.heap.size, 0, none⟩) 1 1] 88)) := (by repeat (first | (with_reducible assumption) | (with_reducible exact Below.refl _ _) | ((with_reducible refine Below.alloc ?_ ?_ _); rotate_left; (focus (first | omega | (simp only [World.size_alloc, World.size_setCell, World.size_drew, World.heap_drewN]; first | done | omega)))) | ((with_reducible refine Below.setCell ?_ ?_ _); rotate_left; (focus (first | omega | (simp only [World.size_alloc, World.size_setCell, World.size_drew, World.heap_drewN]; first | done | omega)))) | (with_reducible refine below_drewN ?_ _) | (with_reducible refine Below.drew ?_) | ((with_reducible refine Below.trans ?_ (Below.mono (by assumption) ?_)); rotate_left; (focus (first | omega | (simp only [World.size_alloc, World.size_setCell, World.size_drew, World.heap_drewN]; first | done | omega))))))
  have B1 : Box (s1.alloc (.cells #[.slice (some ⟨y1.heap.size, 0, none⟩) 1 1] 88)) kb.heap.size 93 #[.int .i64 0, .int .i64 400, .int .i64 500, .int .i64 180, .int .i64 450, .int .i64 600] := by (refine Box.of_f ?_; repeat (first | ((with_reducible refine BoxF.done (by with_reducible assumption) ?_); rfl) | ((with_reducible refine BoxF.new ?_ ?_); (focus (first | omega | (simp only [World.size_alloc, World.size_setCell, World.size_drew, World.heap_drewN]; first | done | omega))); rfl) | ((with_reducible refine BoxF.alloc ?_ ?_); (focus (first | omega | (simp only [World.size_alloc, World.size_setCell, World.size_drew, World.heap_drewN]; first | done | omega)))) | (with_reducible refine BoxF.set ?_) | ((with_reducible refine BoxF.far ?_ ?_); ((try simp only []); omega)) | (with_reducible refine BoxF.drewN ?_) | (with_reducible refine BoxF.drew ?_) | ((with_reducible refine BoxF.below (by with_reducible assumption) ?_ ?_); (focus (first | omega | (simp only [World.size_alloc, World.size_setCell, World.size_drew, World.heap_drewN]; first | done | omega))))))
  have B2 : Box (s1.alloc (.cells #[.slice (some ⟨y1.heap.size, 0, none⟩) 1 1] 88)) kc.heap.size 93 #[.int .i64 0, .int .i64 300, .int .i64 650] := by (refine Box.of_f ?_; repeat (first | ((with_reducible refine BoxF.done (by with_reducible assumption) ?_); rfl) | ((with_reducible refine BoxF.new ?_ ?_); (focus (first | omega | (simp only [World.size_alloc, World.size_setCell, World.size_drew, World.heap_drewN]; first | done | omega))); rfl) | ((with_reducible refine BoxF.alloc ?_ ?_); (focus (first | omega | (simp only [World.size_alloc, World.size_setCell, World.size_drew, World.heap_drewN]; first | done | omega)))) | (with_reducible refine BoxF.set ?_) | ((with_reducible refine BoxF.far ?_ ?_); ((try simp only []); omega)) | (with_reducible refine BoxF.drewN ?_) | (with_reducible refine BoxF.drew ?_) | ((with_reducible refine BoxF.below (by with_reducible assumption) ?_ ?_); (focus (first | omega | (simp only [World.size_alloc, World.size_setCell, World.size_drew, World.heap_drewN]; first | done | omega))))))
  have B3 : Box (s1.alloc (.cells #[.slice (some ⟨y1.heap.size, 0, none⟩) 1 1] 88)) yb.heap.size 28 #[.slice (some ⟨kb.heap.size, 0, none⟩) 2 2, .slice (some ⟨kc.heap.size, 0, none⟩) 1 1] := by (refine Box.of_f ?_; repeat (first | ((with_reducible refine BoxF.done (by with_reducible assumption) ?_); rfl) | ((with_reducible refine BoxF.new ?_ ?_); (focus (first | omega | (simp only [World.size_alloc, World.size_setCell, World.size_drew, World.heap_drewN]; first | done | omega))); rfl) | ((with_reducible refine BoxF.alloc ?_ ?_); (focus (first | omega | (simp only [World.size_alloc, World.size_setCell, World.size_drew, World.heap_drewN]; first | done | omega)))) | (with_reducible refine BoxF.set ?_) | ((with_reducible refine BoxF.far ?_ ?_); ((try simp only []); omega)) | (with_reducible refine BoxF.drewN ?_) | (with_reducible refine BoxF.drew ?_) | ((with_reducible refine BoxF.below (by with_reducible assumption) ?_ ?_); (focus (first | omega | (simp only [World.size_alloc, World.size_setCell, World.size_drew, World.heap_drewN]; first | done | omega))))))
  have B4 : Box (s1.alloc (.cells #[.slice (some ⟨y1.heap.size, 0, none⟩) 1 1] 88)) k1.heap.size 93 #[.int .i64 0, .int .i64 200, .int .i64 300, .int .i64 420, .int .i64 280, .int .i64 400, .int .i64 550, .int .i64 350, .int .i64 480] := by (refine Box.of_f ?_; repeat (first | ((with_reducible refine BoxF.done (by with_reducible assumption) ?_); rfl) | ((with_reducible refine BoxF.new ?_ ?_); (focus (first | omega | (simp only [World.size_alloc, World.size_setCell, World.size_drew, World.heap_drewN]; first | done | omega))); rfl) | ((with_reducible refine BoxF.alloc ?_ ?_); (focus (first | omega | (simp only [World.size_alloc, World.size_setCell, World.size_drew, World.heap_drewN]; first | done | omega)))) | (with_reducible refine BoxF.set ?_) | ((with_reducible refine BoxF.far ?_ ?_); ((try simp only []); omega)) | (with_reducible refine BoxF.drewN ?_) | (with_reducible refine BoxF.drew ?_) | ((with_reducible refine BoxF.below (by with_reducible assumption) ?_ ?_); (focus (first | omega | (simp only [World.size_alloc, World.size_setCell, World.size_drew, World.heap_drewN]; first | done | omega))))))
  have B5 : Box (s1.alloc (.cells #[.slice (some ⟨y1.heap.size, 0, none⟩) 1 1] 88)) y1.heap.size 28 #[.slice (some ⟨k1.heap.size, 0, none⟩) 3 3] := by (refine Box.of_f ?_; repeat (first | ((with_reducible refine BoxF.done (by with_reducible assumption) ?_); rfl) | ((with_reducible refine BoxF.new ?_ ?_); (focus (first | omega | (simp only [World.size_alloc, World.size_setCell, World.size_drew, World.heap_drewN]; first | done | omega))); rfl) | ((with_reducible refine BoxF.alloc ?_ ?_); (focus (first | omega | (simp only [World.size_alloc, World.size_setCell, World.size_drew, World.heap_drewN]; first | done | omega)))) | (with_reducible refine BoxF.set ?_) | ((with_reducible refine BoxF.far ?_ ?_); ((try simp only []); omega)) | (with_reducible refine BoxF.drewN ?_) | (with_reducible refine BoxF.drew ?_) | ((with_reducible refine BoxF.below (by with_reducible assumption) ?_ ?_); (focus (first | omega | (simp only [World.size_alloc, World.size_setCell, World.size_drew, World.heap_drewN]; first | done | omega))))))
  have B6 : Box (s1.alloc (.cells #[.slice (some ⟨y1.heap.size, 0, none⟩) 1 1] 88)) sa.heap.size 88 #[.slice (some ⟨yb.heap.size, 0, none⟩) 2 2] := by (refine Box.of_f ?_; repeat (first | ((with_reducible refine BoxF.done (by with_reducible assumption) ?_); rfl) | ((with_reducible refine BoxF.new ?_ ?_); (focus (first | omega | (simp only [World.size_alloc, World.size_setCell, World.size_drew, World.heap_drewN]; first | done | omega))); rfl) | ((with_reducible refine BoxF.alloc ?_ ?_); (focus (first | omega | (simp only [World.size_alloc, World.size_setCell, World.size_drew, World.heap_drewN]; first | done | omega)))) | (with_reducible refine BoxF.set ?_) | ((with_reducible refine BoxF.far ?_ ?_); ((try simp only []); omega)) | (with_reducible refine BoxF.drewN ?_) | (with_reducible refine BoxF.drew ?_) | ((with_reducible refine BoxF.below (by with_reducible assumption) ?_ ?_); (focus (first | omega | (simp only [World.size_alloc, World.size_setCell, World.size_drew, World.heap_drewN]; first | done | omega))))))
  have B7 : Box (s1.alloc (.cells #[.slice (some ⟨y1.heap.size, 0, none⟩) 1 1] 88)) s1.heap.size 88 #[.slice (some ⟨y1.heap.size, 0, none⟩) 1 1] := Box.new _ _ _
  have B0 : Box (s1.alloc (.cells #[.slice (some ⟨y1.heap.size, 0, none⟩) 1 1] 88)) w.heap.size 25 #[.slice none 0 0, .slice none 0 0] := by (refine Box.of_f ?_; repeat (first | ((with_reducible refine BoxF.done (by with_reducible assumption) ?_); rfl) | ((with_reducible refine BoxF.new ?_ ?_); (focus (first | omega | (simp only [World.size_alloc, World.size_setCell, World.size_drew, World.heap_drewN]; first | done | omega))); rfl) | ((with_reducible refine BoxF.alloc ?_ ?_); (focus (first | omega | (simp only [World.size_alloc, World.size_setCell, World.size_drew, World.heap_drewN]; first | done | omega)))) | (with_reducible refine BoxF.set ?_) | ((with_reducible refine BoxF.far ?_ ?_); ((try simp only []); omega)) | (with_reducible refine BoxF.drewN ?_) | (with_reducible refine BoxF.drew ?_) | ((with_reducible refine BoxF.below (by with_reducible assumption) ?_ ?_); (focus (first | omega | (simp only [World.size_alloc, World.size_setCell, World.size_drew, World.heap_drewN]; first | done | omega))))))
  have e1 : w.heap.size < kb.heap.size := by omega
  have e2 : w.heap.size < kc.heap.size := by omega
  have e3 : w.heap.size < yb.heap.size := by omega
  have e4 : w.heap.size < k1.heap.size := by omega
  have e5 : w.heap.size < y1.heap.size := by omega
  have e6 : w.heap.size < sa.heap.size := by omega
  have e7 : w.heap.size < s1.heap.size := by omega
  generalize s1.alloc (.cells #[.slice (some ⟨y1.heap.size, 0, none⟩) 1 1] 88) = W at hw0 B0 B1 B2 B3 B4 B5 B6 B7 ⊢
  generalize kb.heap.size = p1 at e1 B1 B3 ⊢
  generalize kc.heap.size = p2 at e2 B2 B3 ⊢
  generalize yb.heap.size = p3 at e3 B3 B6 ⊢
  generalize k1.heap.size = p4 at e4 B4 B5 ⊢
  generalize y1.heap.size = p5 at e5 B5 B7 ⊢
  generalize sa.heap.size = p6 at e6 B6 ⊢
  generalize s1.heap.size = p7 at e7 B7 ⊢
  clear ha hb hya hc hyb hsa hd he hk1 hy1 hs1 z0 z1 z2 z3 z4 z5 z6 z7 z8 z9 z10
  have q6 := B6.lt
  have q7 := B7.lt
  have q0 := B0.lt
  obtain ⟨c6, f6⟩ := B6.one
  obtain ⟨c7, f7⟩ := B7.one
  obtain ⟨c0, c1, f0, f1⟩ := B0.two
  have hw0d : Below w.heap.size w W.drew := hw0.drew
  refine wp_region_held_drew (S := fun w' => w'.cell? ⟨p6, 0, none⟩ = some (.slice (some ⟨p3, 0, none⟩) 2 2) ∧ w'.cell? ⟨p7, 0, none⟩ = some (.slice (some ⟨p5, 0, none⟩) 1 1)) (by kernel_rfl) ⟨c6, c7⟩ (fun _ => ?_)
  have hS : ∀ V, Below W.heap.size W V → V.cell? ⟨p6, 0, none⟩ = some (.slice (some ⟨p3, 0, none⟩) 2 2) ∧ V.cell? ⟨p7, 0, none⟩ = some (.slice (some ⟨p5, 0, none⟩) 1 1) := fun V hV => ⟨(Box.below B6 hV q6).cell 0, (Box.below B7 hV q7).cell 0⟩
  have HS := Lib.hid hS
  clear hS
  refine wpAnyH_take (i := 3) (v := ?_) rfl (by kernel_rfl) (by kernel_rfl) (by kernel_rfl) (fun _ _ _ h => h) (Or.inl ⟨by rfl, ?_⟩) (by assumption) ?_; rotate_left; (focus (intro _w _hSw; obtain ⟨_c1, _c2⟩ := _hSw; (try simp only [Array.getInternal_eq_getElem, List.getElem_toArray, List.getElem_cons_zero, List.getElem_cons_succ]); go_simp; (try with_reducible rfl))); simp only [Array.getInternal_eq_getElem, List.getElem_toArray, List.getElem_cons_zero, List.getElem_cons_succ, Act.put, List.setIfInBounds_toArray, List.set_cons_zero, List.set_cons_succ]
  refine wpAnyH_take (i := 4) (v := ?_) rfl (by kernel_rfl) (by kernel_rfl) (by kernel_rfl) (fun _ _ _ h => h) (Or.inl ⟨by rfl, ?_⟩) (by assumption) ?_; rotate_left; (focus (intro _w _hSw; obtain ⟨_c1, _c2⟩ := _hSw; (try simp only [Array.getInternal_eq_getElem, List.getElem_toArray, List.getElem_cons_zero, List.getElem_cons_succ]); go_simp; (try with_reducible rfl))); simp only [Array.getInternal_eq_getElem, List.getElem_toArray, List.getElem_cons_zero, List.getElem_cons_succ, Act.put, List.setIfInBounds_toArray, List.set_cons_zero, List.set_cons_succ]
  have gd : Below W.heap.size W W.drew := (Below.refl _ _).drew
  refine wpAnyH_ready (rs := [0, 5]) (by kernel_rfl) (by simp) ?_
  refine AllReadyH.cons rfl (fun K hK => ?_) (AllReadyH.cons rfl (fun K hK => ?_) AllReadyH.nil)
  · try simp only [Array.getInternal_eq_getElem, List.getElem_toArray, List.getElem_cons_zero, List.getElem_cons_succ]; go_simp
    refine (rg_any 100 170 _).mono ?_
    rintro e v1 ⟨rfl, hv1⟩
    have gv1 : Below W.heap.size W v1 := gd.trans (hv1.mono gd.size)
    refine hK.out _ _ (HS.out _ gv1) (fun _ => ?_); clear hK; try simp only [Act.put, List.setIfInBounds_toArray, List.set_cons_zero, List.set_cons_succ]
    refine wpAnyH_ready (rs := [1, 5]) (by kernel_rfl) (by simp) ?_
    refine AllReadyH.cons rfl (fun K hK => ?_) (AllReadyH.cons rfl (fun K hK => ?_) AllReadyH.nil)
    · try simp only [Array.getInternal_eq_getElem, List.getElem_toArray, List.getElem_cons_zero, List.getElem_cons_succ]; go_simp
      refine (rg_any 150 300 _).mono ?_
      rintro e v2 ⟨rfl, hv2⟩
      have gv2 : Below W.heap.size W v2 := gv1.trans (hv2.mono gv1.size)
      refine hK.out _ _ (HS.out _ gv2) (fun _ => ?_); clear hK; try simp only [Act.put, List.setIfInBounds_toArray, List.set_cons_zero, List.set_cons_succ]
      refine wpAnyH_ready (rs := [2, 5]) (by kernel_rfl) (by simp) ?_
      refine AllReadyH.cons rfl (fun K hK => ?_) (AllReadyH.cons rfl (fun K hK => ?_) AllReadyH.nil)
      · try simp only [Array.getInternal_eq_getElem, List.getElem_toArray, List.getElem_cons_zero, List.getElem_cons_succ]; go_simp
        have gv3 : Below W.heap.size W (v2.alloc (.cells #[.int .i64 100, .int .i64 170, .int .i64 150, .int .i64 300] 33)) := gv2.alloc gv2.size _
        refine hK.out _ _ (HS.out _ gv3) (fun _ => ?_); clear hK; try simp only [Act.put, List.setIfInBounds_toArray, List.set_cons_zero, List.set_cons_succ]
        refine wpAnyH_ready (rs := [5]) (by kernel_rfl) (by simp) ?_
        refine AllReadyH.cons rfl (fun K hK => ?_) AllReadyH.nil
        try simp only [Array.getInternal_eq_getElem, List.getElem_toArray, List.getElem_cons_zero, List.getElem_cons_succ]; go_simp
        have gv4 : Below W.heap.size W ((v2.alloc (.cells #[.int .i64 100, .int .i64 170, .int .i64 150, .int .i64 300] 33)).alloc (.cells #[.slice (some ⟨p3, 0, none⟩) 2 2, .slice (some ⟨p5, 0, none⟩) 1 1] 88)) := gv3.alloc gv3.size _
        refine hK.out _ _ (HS.out _ gv4) (fun _ => ?_); clear hK; try simp only [Act.put, List.setIfInBounds_toArray, List.set_cons_zero, List.set_cons_succ]
        have B0x := Box.below B0 gv4 q0
        obtain ⟨d0, d1, g0, g1⟩ := B0x.two
        refine wpAnyH_take (i := 6) (v := ?_) rfl (by kernel_rfl) (by kernel_rfl) (by kernel_rfl) (fun _ _ _ h => h) (Or.inl ⟨by rfl, ?_⟩) (by assumption) ?_; rotate_left; (focus (intro _w _hSw; obtain ⟨_c1, _c2⟩ := _hSw; (try simp only [Array.getInternal_eq_getElem, List.getElem_toArray, List.getElem_cons_zero, List.getElem_cons_succ]); go_simp; (try with_reducible rfl))); simp only [Array.getInternal_eq_getElem, List.getElem_toArray, List.getElem_cons_zero, List.getElem_cons_succ, Act.put, List.setIfInBounds_toArray, List.set_cons_zero, List.set_cons_succ]
        refine wpAnyH_ready (rs := [7]) (by kernel_rfl) (by simp) ?_; refine AllReadyH.cons rfl (fun K hK => ?_) AllReadyH.nil; (try simp only [Array.getInternal_eq_getElem, List.getElem_toArray, List.getElem_cons_zero, List.getElem_cons_succ])
        go_simp
        have hfin := house_end (pb := v2.heap.size) (ps := v2.heap.size + 1) hw0 gv4 e1 e2 e3 e4 e5 (Box.below B1 gv4 B1.lt) (Box.below B2 gv4 B2.lt) (Box.below B3 gv4 B3.lt) (Box.below B4 gv4 B4.lt) (Box.below B5 gv4 B5.lt) (Box.alloc (Box.new' (by first | rfl | (simp; done))) _) (Box.new' (by first | rfl | (simp; done))) q0 (by have := gv2.size; first | exact this | (simp at this ⊢; try omega)) (by have := gv3.size; first | exact this | (simp at this ⊢; try omega)) (u1 := .slice (some ⟨v2.heap.size, 0, none⟩) 2 2) (u2 := .slice (some ⟨v2.heap.size + 1, 0, none⟩) 2 2)
        refine hK.out _ _ ⟨(Box.far (Box.far (Box.below B6 gv4 q6) (by show p6 ≠ w.heap.size; omega) _) (by show p6 ≠ w.heap.size; omega) _).cell 0, (Box.far (Box.far (Box.below B7 gv4 q7) (by show p7 ≠ w.heap.size; omega) _) (by show p7 ≠ w.heap.size; omega) _).cell 0⟩ (fun _ => ?_)
        clear hK
        try simp only [Act.put, List.setIfInBounds_toArray, List.set_cons_zero, List.set_cons_succ]
        refine wpAnyH_done (by kernel_rfl) ?_ _
        have B0y := Box.set_ (Box.set_ B0x 0 (.slice (some ⟨v2.heap.size, 0, none⟩) 2 2)) 1 (.slice (some ⟨v2.heap.size + 1, 0, none⟩) 2 2)
        obtain ⟨j0, j1, _, _⟩ := Box.two (Box.cast B0y (cs' := #[.slice (some ⟨v2.heap.size, 0, none⟩) 2 2, .slice (some ⟨v2.heap.size + 1, 0, none⟩) 2 2]) rfl)
        clear d0 d1 g0 g1
        go_wp2_with fail
        refine bodyPost_ret (v := .agg #[.slice (some ⟨v2.heap.size, 0, none⟩) 2 2, .slice (some ⟨v2.heap.size + 1, 0, none⟩) 2 2]) (by simp [results, Try.results52, go_sem, *]) rfl ?_
        exact hfin
      · try simp only [Array.getInternal_eq_getElem, List.getElem_toArray, List.getElem_cons_zero, List.getElem_cons_succ]; go_simp
        have gv5 : Below W.heap.size W (v2.alloc (.cells #[.slice (some ⟨p3, 0, none⟩) 2 2, .slice (some ⟨p5, 0, none⟩) 1 1] 88)) := gv2.alloc gv2.size _
        refine hK.out _ _ (HS.out _ gv5) (fun _ => ?_); clear hK; try simp only [Act.put, List.setIfInBounds_toArray, List.set_cons_zero, List.set_cons_succ]
        refine wpAnyH_ready (rs := [2]) (by kernel_rfl) (by simp) ?_
        refine AllReadyH.cons rfl (fun K hK => ?_) AllReadyH.nil
        try simp only [Array.getInternal_eq_getElem, List.getElem_toArray, List.getElem_cons_zero, List.getElem_cons_succ]; go_simp
        have gv6 : Below W.heap.size W ((v2.alloc (.cells #[.slice (some ⟨p3, 0, none⟩) 2 2, .slice (some ⟨p5, 0, none⟩) 1 1] 88)).alloc (.cells #[.int .i64 100, .int .i64 170, .int .i64 150, .int .i64 300] 33)) := gv5.alloc gv5.size _
        refine hK.out _ _ (HS.out _ gv6) (fun _ => ?_); clear hK; try simp only [Act.put, List.setIfInBounds_toArray, List.set_cons_zero, List.set_cons_succ]
        have B0x := Box.below B0 gv6 q0
        obtain ⟨d0, d1, g0, g1⟩ := B0x.two
        refine wpAnyH_take (i := 6) (v := ?_) rfl (by kernel_rfl) (by kernel_rfl) (by kernel_rfl) (fun _ _ _ h => h) (Or.inl ⟨by rfl, ?_⟩) (by assumption) ?_; rotate_left; (focus (intro _w _hSw; obtain ⟨_c1, _c2⟩ := _hSw; (try simp only [Array.getInternal_eq_getElem, List.getElem_toArray, List.getElem_cons_zero, List.getElem_cons_succ]); go_simp; (try with_reducible rfl))); simp only [Array.getInternal_eq_getElem, List.getElem_toArray, List.getElem_cons_zero, List.getElem_cons_succ, Act.put, List.setIfInBounds_toArray, List.set_cons_zero, List.set_cons_succ]
        refine wpAnyH_ready (rs := [7]) (by kernel_rfl) (by simp) ?_; refine AllReadyH.cons rfl (fun K hK => ?_) AllReadyH.nil; (try simp only [Array.getInternal_eq_getElem, List.getElem_toArray, List.getElem_cons_zero, List.getElem_cons_succ])
        go_simp
        have hfin := house_end (pb := v2.heap.size + 1) (ps := v2.heap.size) hw0 gv6 e1 e2 e3 e4 e5 (Box.below B1 gv6 B1.lt) (Box.below B2 gv6 B2.lt) (Box.below B3 gv6 B3.lt) (Box.below B4 gv6 B4.lt) (Box.below B5 gv6 B5.lt) (Box.new' (by first | rfl | (simp; done))) (Box.alloc (Box.new' (by first | rfl | (simp; done))) _) q0 (by have := gv5.size; first | exact this | (simp at this ⊢; try omega)) (by have := gv2.size; first | exact this | (simp at this ⊢; try omega)) (u1 := .slice (some ⟨v2.heap.size + 1, 0, none⟩) 2 2) (u2 := .slice (some ⟨v2.heap.size, 0, none⟩) 2 2)
        refine hK.out _ _ ⟨(Box.far (Box.far (Box.below B6 gv6 q6) (by show p6 ≠ w.heap.size; omega) _) (by show p6 ≠ w.heap.size; omega) _).cell 0, (Box.far (Box.far (Box.below B7 gv6 q7) (by show p7 ≠ w.heap.size; omega) _) (by show p7 ≠ w.heap.size; omega) _).cell 0⟩ (fun _ => ?_)
        clear hK
        try simp only [Act.put, List.setIfInBounds_toArray, List.set_cons_zero, List.set_cons_succ]
        refine wpAnyH_done (by kernel_rfl) ?_ _
        have B0y := Box.set_ (Box.set_ B0x 0 (.slice (some ⟨v2.heap.size + 1, 0, none⟩) 2 2)) 1 (.slice (some ⟨v2.heap.size, 0, none⟩) 2 2)
        obtain ⟨j0, j1, _, _⟩ := Box.two (Box.cast B0y (cs' := #[.slice (some ⟨v2.heap.size + 1, 0, none⟩) 2 2, .slice (some ⟨v2.heap.size, 0, none⟩) 2 2]) rfl)
        clear d0 d1 g0 g1
        go_wp2_with fail
        refine bodyPost_ret (v := .agg #[.slice (some ⟨v2.heap.size + 1, 0, none⟩) 2 2, .slice (some ⟨v2.heap.size, 0, none⟩) 2 2]) (by simp [results, Try.results52, go_sem, *]) rfl ?_
        exact hfin
    · try simp only [Array.getInternal_eq_getElem, List.getElem_toArray, List.getElem_cons_zero, List.getElem_cons_succ]; go_simp
      have gv7 : Below W.heap.size W (v1.alloc (.cells #[.slice (some ⟨p3, 0, none⟩) 2 2, .slice (some ⟨p5, 0, none⟩) 1 1] 88)) := gv1.alloc gv1.size _
      refine hK.out _ _ (HS.out _ gv7) (fun _ => ?_); clear hK; try simp only [Act.put, List.setIfInBounds_toArray, List.set_cons_zero, List.set_cons_succ]
      refine wpAnyH_ready (rs := [1]) (by kernel_rfl) (by simp) ?_
      refine AllReadyH.cons rfl (fun K hK => ?_) AllReadyH.nil
      try simp only [Array.getInternal_eq_getElem, List.getElem_toArray, List.getElem_cons_zero, List.getElem_cons_succ]; go_simp
      refine (rg_any 150 300 _).mono ?_
      rintro e v8 ⟨rfl, hv8⟩
      have gv8 : Below W.heap.size W v8 := gv7.trans (hv8.mono gv7.size)
      refine hK.out _ _ (HS.out _ gv8) (fun _ => ?_); clear hK; try simp only [Act.put, List.setIfInBounds_toArray, List.set_cons_zero, List.set_cons_succ]
      refine wpAnyH_ready (rs := [2]) (by kernel_rfl) (by simp) ?_
      refine AllReadyH.cons rfl (fun K hK => ?_) AllReadyH.nil
      try simp only [Array.getInternal_eq_getElem, List.getElem_toArray, List.getElem_cons_zero, List.getElem_cons_succ]; go_simp
      have gv9 : Below W.heap.size W (v8.alloc (.cells #[.int .i64 100, .int .i64 170, .int .i64 150, .int .i64 300] 33)) := gv8.alloc gv8.size _
      refine hK.out _ _ (HS.out _ gv9) (fun _ => ?_); clear hK; try simp only [Act.put, List.setIfInBounds_toArray, List.set_cons_zero, List.set_cons_succ]
      have B0x := Box.below B0 gv9 q0
      obtain ⟨d0, d1, g0, g1⟩ := B0x.two
      refine wpAnyH_take (i := 6) (v := ?_) rfl (by kernel_rfl) (by kernel_rfl) (by kernel_rfl) (fun _ _ _ h => h) (Or.inl ⟨by rfl, ?_⟩) (by assumption) ?_; rotate_left; (focus (intro _w _hSw; obtain ⟨_c1, _c2⟩ := _hSw; (try simp only [Array.getInternal_eq_getElem, List.getElem_toArray, List.getElem_cons_zero, List.getElem_cons_succ]); go_simp; (try with_reducible rfl))); simp only [Array.getInternal_eq_getElem, List.getElem_toArray, List.getElem_cons_zero, List.getElem_cons_succ, Act.put, List.setIfInBounds_toArray, List.set_cons_zero, List.set_cons_succ]
      refine wpAnyH_ready (rs := [7]) (by kernel_rfl) (by simp) ?_; refine AllReadyH.cons rfl (fun K hK => ?_) AllReadyH.nil; (try simp only [Array.getInternal_eq_getElem, List.getElem_toArray, List.getElem_cons_zero, List.getElem_cons_succ])
      go_simp
      have hfin := house_end (pb := v8.heap.size) (ps := v1.heap.size) hw0 gv9 e1 e2 e3 e4 e5 (Box.below B1 gv9 B1.lt) (Box.below B2 gv9 B2.lt) (Box.below B3 gv9 B3.lt) (Box.below B4 gv9 B4.lt) (Box.below B5 gv9 B5.lt) (Box.new' (by first | rfl | (simp; done))) (Box.alloc (Box.below (Box.new' (by first | rfl | (simp; done))) hv8 (by first | (simp; done) | exact Nat.lt_succ_self _ | (rw [World.size_alloc]; exact Nat.lt_succ_self _))) _) q0 (by have := gv8.size; first | exact this | (simp at this ⊢; try omega)) (by have := gv1.size; first | exact this | (simp at this ⊢; try omega)) (u1 := .slice (some ⟨v8.heap.size, 0, none⟩) 2 2) (u2 := .slice (some ⟨v1.heap.size, 0, none⟩) 2 2)
      refine hK.out _ _ ⟨(Box.far (Box.far (Box.below B6 gv9 q6) (by show p6 ≠ w.heap.size; omega) _) (by show p6 ≠ w.heap.size; omega) _).cell 0, (Box.far (Box.far (Box.below B7 gv9 q7) (by show p7 ≠ w.heap.size; omega) _) (by show p7 ≠ w.heap.size; omega) _).cell 0⟩ (fun _ => ?_)
      clear hK
      try simp only [Act.put, List.setIfInBounds_toArray, List.set_cons_zero, List.set_cons_succ]
      refine wpAnyH_done (by kernel_rfl) ?_ _
      have B0y := Box.set_ (Box.set_ B0x 0 (.slice (some ⟨v8.heap.size, 0, none⟩) 2 2)) 1 (.slice (some ⟨v1.heap.size, 0, none⟩) 2 2)
      obtain ⟨j0, j1, _, _⟩ := Box.two (Box.cast B0y (cs' := #[.slice (some ⟨v8.heap.size, 0, none⟩) 2 2, .slice (some ⟨v1.heap.size, 0, none⟩) 2 2]) rfl)
      clear d0 d1 g0 g1
      go_wp2_with fail
      refine bodyPost_ret (v := .agg #[.slice (some ⟨v8.heap.size, 0, none⟩) 2 2, .slice (some ⟨v1.heap.size, 0, none⟩) 2 2]) (by simp [results, Try.results52, go_sem, *]) rfl ?_
      exact hfin
  · try simp only [Array.getInternal_eq_getElem, List.getElem_toArray, List.getElem_cons_zero, List.getElem_cons_succ]; go_simp
    have gv10 : Below W.heap.size W (W.alloc (.cells #[.slice (some ⟨p3, 0, none⟩) 2 2, .slice (some ⟨p5, 0, none⟩) 1 1] 88)).drew := ((Below.refl _ _).alloc (Nat.le_refl _) _).drew
    refine hK.out _ _ (HS.out _ gv10) (fun _ => ?_); clear hK; try simp only [Act.put, List.setIfInBounds_toArray, List.set_cons_zero, List.set_cons_succ]
    refine wpAnyH_ready (rs := [0]) (by kernel_rfl) (by simp) ?_
    refine AllReadyH.cons rfl (fun K hK => ?_) AllReadyH.nil
    try simp only [Array.getInternal_eq_getElem, List.getElem_toArray, List.getElem_cons_zero, List.getElem_cons_succ]; go_simp
    refine (rg_any 100 170 _).mono ?_
    rintro e v11 ⟨rfl, hv11⟩
    have gv11 : Below W.heap.size W v11 := gv10.trans (hv11.mono gv10.size)
    refine hK.out _ _ (HS.out _ gv11) (fun _ => ?_); clear hK; try simp only [Act.put, List.setIfInBounds_toArray, List.set_cons_zero, List.set_cons_succ]
    refine wpAnyH_ready (rs := [1]) (by kernel_rfl) (by simp) ?_
    refine AllReadyH.cons rfl (fun K hK => ?_) AllReadyH.nil
    try simp only [Array.getInternal_eq_getElem, List.getElem_toArray, List.getElem_cons_zero, List.getElem_cons_succ]; go_simp
    refine (rg_any 150 300 _).mono ?_
    rintro e v12 ⟨rfl, hv12⟩
    have gv12 : Below W.heap.size W v12 := gv11.trans (hv12.mono gv11.size)
    refine hK.out _ _ (HS.out _ gv12) (fun _ => ?_); clear hK; try simp only [Act.put, List.setIfInBounds_toArray, List.set_cons_zero, List.set_cons_succ]
    refine wpAnyH_ready (rs := [2]) (by kernel_rfl) (by simp) ?_
    refine AllReadyH.cons rfl (fun K hK => ?_) AllReadyH.nil
    try simp only [Array.getInternal_eq_getElem, List.getElem_toArray, List.getElem_cons_zero, List.getElem_cons_succ]; go_simp
    have gv13 : Below W.heap.size W (v12.alloc (.cells #[.int .i64 100, .int .i64 170, .int .i64 150, .int .i64 300] 33)) := gv12.alloc gv12.size _
    refine hK.out _ _ (HS.out _ gv13) (fun _ => ?_); clear hK; try simp only [Act.put, List.setIfInBounds_toArray, List.set_cons_zero, List.set_cons_succ]
    have B0x := Box.below B0 gv13 q0
    obtain ⟨d0, d1, g0, g1⟩ := B0x.two
    refine wpAnyH_take (i := 6) (v := ?_) rfl (by kernel_rfl) (by kernel_rfl) (by kernel_rfl) (fun _ _ _ h => h) (Or.inl ⟨by rfl, ?_⟩) (by assumption) ?_; rotate_left; (focus (intro _w _hSw; obtain ⟨_c1, _c2⟩ := _hSw; (try simp only [Array.getInternal_eq_getElem, List.getElem_toArray, List.getElem_cons_zero, List.getElem_cons_succ]); go_simp; (try with_reducible rfl))); simp only [Array.getInternal_eq_getElem, List.getElem_toArray, List.getElem_cons_zero, List.getElem_cons_succ, Act.put, List.setIfInBounds_toArray, List.set_cons_zero, List.set_cons_succ]
    refine wpAnyH_ready (rs := [7]) (by kernel_rfl) (by simp) ?_; refine AllReadyH.cons rfl (fun K hK => ?_) AllReadyH.nil; (try simp only [Array.getInternal_eq_getElem, List.getElem_toArray, List.getElem_cons_zero, List.getElem_cons_succ])
    go_simp
    have hfin := house_end (pb := v12.heap.size) (ps := W.heap.size) hw0 gv13 e1 e2 e3 e4 e5 (Box.below B1 gv13 B1.lt) (Box.below B2 gv13 B2.lt) (Box.below B3 gv13 B3.lt) (Box.below B4 gv13 B4.lt) (Box.below B5 gv13 B5.lt) (Box.new' (by first | rfl | (simp; done))) (Box.alloc (Box.below (Box.below (Box.drew (Box.new W _ _)) hv11 (by first | (simp; done) | exact Nat.lt_succ_self _ | (rw [World.size_alloc]; exact Nat.lt_succ_self _))) hv12 (by have := hv11.size; simp at this; omega)) _) q0 (by have := gv12.size; first | exact this | (simp at this ⊢; try omega)) (by have := gd.size; first | exact this | (simp at this ⊢; try omega)) (u1 := .slice (some ⟨v12.heap.size, 0, none⟩) 2 2) (u2 := .slice (some ⟨W.heap.size, 0, none⟩) 2 2)
    refine hK.out _ _ ⟨(Box.far (Box.far (Box.below B6 gv13 q6) (by show p6 ≠ w.heap.size; omega) _) (by show p6 ≠ w.heap.size; omega) _).cell 0, (Box.far (Box.far (Box.below B7 gv13 q7) (by show p7 ≠ w.heap.size; omega) _) (by show p7 ≠ w.heap.size; omega) _).cell 0⟩ (fun _ => ?_)
    clear hK
    try simp only [Act.put, List.setIfInBounds_toArray, List.set_cons_zero, List.set_cons_succ]
    refine wpAnyH_done (by kernel_rfl) ?_ _
    have B0y := Box.set_ (Box.set_ B0x 0 (.slice (some ⟨v12.heap.size, 0, none⟩) 2 2)) 1 (.slice (some ⟨W.heap.size, 0, none⟩) 2 2)
    obtain ⟨j0, j1, _, _⟩ := Box.two (Box.cast B0y (cs' := #[.slice (some ⟨v12.heap.size, 0, none⟩) 2 2, .slice (some ⟨W.heap.size, 0, none⟩) 2 2]) rfl)
    clear d0 d1 g0 g1
    go_wp2_with fail
    refine bodyPost_ret (v := .agg #[.slice (some ⟨v12.heap.size, 0, none⟩) 2 2, .slice (some ⟨W.heap.size, 0, none⟩) 2 2]) (by simp [results, Try.results52, go_sem, *]) rfl ?_
    exact hfin
end Go.Proofs.Ytigpefjeelgfdaa

/-
  Layer 1, plain: the answers at the works of the chapter's examples.
-/
namespace Go.Proofs.Ytigpefjeelgfdaa
open Go.RowKit

theorem houseErr : worksErr houseX = 0 := by kernel_rfl
theorem houseRec1 : recErr houseX 1 [0, 0] = 0 := by kernel_rfl
theorem houseRec0 : recErr houseX 0 [0, 0] = 0 := by kernel_rfl
theorem houseOk1 : RecOk houseX ((1 : Nat) : Int) [0, 0] := recOk_iff.1 houseRec1
theorem houseOk0 : RecOk houseX ((0 : Nat) : Int) [0, 0] := recOk_iff.1 houseRec0
theorem houseWay0 : wayOf houseX [0, 0] 0 = [⟨0, 400, 500⟩, ⟨180, 450, 600⟩] := rfl
theorem houseWay1 : wayOf houseX [0, 0] 1 = [⟨0, 200, 300⟩, ⟨420, 280, 400⟩, ⟨550, 350, 480⟩] := rfl
theorem houseRng1 : (List.range 3).map (rngN houseX 1 [0, 0]) = [(150, 300), (400, 600), (200, 480)] := by kernel_rfl
theorem houseRng0 : (List.range 3).map (rngN houseX 0 [0, 0]) = [(100, 170), (400, 500), (200, 400)] := by kernel_rfl
theorem houseRanges1 : endsL (recRows houseX 1 [0, 0]) 3 = [(150, 300), (400, 600), (200, 480)] := (endsL_iv houseOk1).trans houseRng1
theorem houseRanges0 : endsL (recRows houseX 0 [0, 0]) 3 = [(100, 170), (400, 500), (200, 400)] := (endsL_iv houseOk0).trans houseRng0
theorem houseHist1 : histErr houseX 1 [0, 0] [200, 560, 415] = 0 := by kernel_rfl
theorem houseHist2 : histErr houseX 1 [0, 0] [160, 560, 415] = 16 := by kernel_rfl
theorem houseAft : aftV [⟨0, 200, 300⟩, ⟨420, 280, 400⟩, ⟨550, 350, 480⟩] 420 = .tuple #[.agg #[.int .i64 280, .int .i64 400], .int .i64 0] := by kernel_rfl
theorem aftW0 (j : Int) (h : 0 ≤ j) : aft [⟨0, 400, 500⟩, ⟨180, 450, 600⟩] j = if 180 ≤ j then (450, 600) else (400, 500) := by
  simp only [aft, aftTo, kFst, List.length_cons, List.length_nil, List.take_succ_cons, List.take_zero, List.foldl_cons, List.foldl_nil]
  rw [if_pos h]
theorem aftW1 (j : Int) (h : 0 ≤ j) : aft [⟨0, 200, 300⟩, ⟨420, 280, 400⟩, ⟨550, 350, 480⟩] j = if 550 ≤ j then (350, 480) else if 420 ≤ j then (280, 400) else (200, 300) := by
  simp only [aft, aftTo, kFst, List.length_cons, List.length_nil, List.take_succ_cons, List.take_zero, List.foldl_cons, List.foldl_nil]
  rw [if_pos h]
theorem hadAny_iff {x : Works} {m : Nat} {ways : List Int} (ok : RecOk x m ways) {mlo mhi : Int} : hadAny x (rowOf x ways (barP x m)) (meas mlo mhi) = true ↔ ∃ j : Nat, j < 1001 ∧ ((rngN x m ways x.steps.length).1 ≤ j ∧ (j : Int) ≤ (rngN x m ways x.steps.length).2) ∧ mlo ≤ j ∧ (j : Int) ≤ mhi := by
  unfold hadAny
  rw [anyRow_iff]
  simp only [keepR, if_true, Bool.and_eq_true, rowOf_sub ok (Nat.le_refl _), meas, inB, decide_eq_true_eq]
theorem houseR1 (i : Nat) (h : i ≤ 2) : recRows houseX 1 [0, 0] i = ivP (rngN houseX 1 [0, 0] i).1.toNat (rngN houseX 1 [0, 0] i).2.toNat := rowOf_iv houseOk1 i h
theorem houseAny1 : hadAny houseX (recRows houseX 1 [0, 0]) (meas 410 420) = true := by
  refine (hadAny_iff houseOk1).2 ⟨415, by omega, ?_, by omega, by omega⟩
  have : rngN houseX ((1 : Nat)) [0, 0] houseX.steps.length = (200, 480) := by kernel_rfl
  rw [this]
  exact ⟨by decide, by decide⟩
theorem houseAny0 : hadAny houseX (recRows houseX 0 [0, 0]) (meas 410 420) = false := by
  rw [← Bool.not_eq_true]
  intro h
  obtain ⟨j, _, ⟨h1, h2⟩, h3, h4⟩ := (hadAny_iff houseOk0).1 h
  have : rngN houseX ((0 : Nat)) [0, 0] houseX.steps.length = (200, 400) := by kernel_rfl
  rw [this] at h1 h2
  simp only at h1 h2
  omega
theorem houseAgr1 : agrErr houseX 1 [0, 0] 410 420 = 0 := by
  have h1 : isHardB 410 420 = true := by decide
  unfold agrErr
  rw [if_neg (by rw [houseRec1]; simp), if_neg (by rw [h1]; simp), if_neg (by rw [houseAny1]; simp)]
theorem houseAgr0 : agrErr houseX 0 [0, 0] 410 420 = 17 := by
  have h1 : isHardB 410 420 = true := by decide
  unfold agrErr
  rw [if_neg (by rw [houseRec0]; simp), if_neg (by rw [h1]; simp), if_pos houseAny0]
theorem houseH2 : agrRows houseX 1 [0, 0] 410 420 2 = ivP 410 420 := by
  funext j
  have h := had_last houseX [0, 0] (recRows houseX 1 [0, 0]) (meas 410 420) j
  have h2 : agrRows houseX 1 [0, 0] 410 420 2 j = hadRows houseX [0, 0] (recRows houseX 1 [0, 0]) (meas 410 420) houseX.steps.length j := rfl
  have hr := houseR1 2 (by omega)
  have hg : rngN houseX 1 [0, 0] 2 = (200, 480) := by kernel_rfl
  rw [hg] at hr
  rw [h2, h]
  show (recRows houseX 1 [0, 0] 2 j && meas 410 420 j) = _
  rw [hr, Bool.eq_iff_iff]
  simp only [ivP, meas, inB, Bool.and_eq_true, decide_eq_true_eq]
  omega
theorem houseH1 : agrRows houseX 1 [0, 0] 410 420 1 = ivP 550 600 := by
  funext j
  have h := had_step houseX [0, 0] (recRows houseX 1 [0, 0]) (meas 410 420) (s := 1) (by decide) j
  have h2 : hadRows houseX [0, 0] (recRows houseX 1 [0, 0]) (meas 410 420) 2 = ivP 410 420 := houseH2
  have hr := houseR1 1 (by omega)
  have hg : rngN houseX 1 [0, 0] 1 = (400, 600) := by kernel_rfl
  rw [hg] at hr
  have h3 : agrRows houseX 1 [0, 0] 410 420 1 j = hadRows houseX [0, 0] (recRows houseX 1 [0, 0]) (meas 410 420) 1 j := rfl
  rw [h3, h, h2, hr, houseWay1, Bool.eq_iff_iff, Bool.and_eq_true]
  by_cases hj : j ≤ 1000
  · rw [lead_iv (by kernel_rfl) (by simp) (by omega) hj, aftW1 j (by omega)]
    simp only [ivP, decide_eq_true_eq]
    split
    · simp only; omega
    · split
      · simp only; omega
      · simp only; omega
  · simp only [ivP, decide_eq_true_eq]
    omega
theorem houseH0 : agrRows houseX 1 [0, 0] 410 420 0 = ivP 180 300 := by
  funext j
  have h := had_step houseX [0, 0] (recRows houseX 1 [0, 0]) (meas 410 420) (s := 0) (by decide) j
  have h2 : hadRows houseX [0, 0] (recRows houseX 1 [0, 0]) (meas 410 420) (0 + 1) = ivP 550 600 := houseH1
  have hr := houseR1 0 (by omega)
  have hg : rngN houseX 1 [0, 0] 0 = (150, 300) := by kernel_rfl
  rw [hg] at hr
  have h3 : agrRows houseX 1 [0, 0] 410 420 0 j = hadRows houseX [0, 0] (recRows houseX 1 [0, 0]) (meas 410 420) 0 j := rfl
  rw [h3, h, h2, hr, houseWay0, Bool.eq_iff_iff, Bool.and_eq_true]
  by_cases hj : j ≤ 1000
  · rw [lead_iv (by kernel_rfl) (by simp) (by omega) hj, aftW0 j (by omega)]
    simp only [ivP, decide_eq_true_eq]
    split
    · simp only; omega
    · simp only; omega
  · simp only [ivP, decide_eq_true_eq]
    omega
theorem houseHad : endsL (agrRows houseX 1 [0, 0] 410 420) 3 = [(180, 300), (550, 600), (410, 420)] := by
  show [_, _, _] = _
  dsimp only
  rw [houseH0, houseH1, houseH2, endsOf_iv (by omega) (by omega), endsOf_iv (by omega) (by omega), endsOf_iv (by omega) (by omega)]
  rfl
theorem houseHistory : histVals houseX 1 [0, 0] 410 420 = [180, 550, 410] := by
  have w0 : histN houseX 1 [0, 0] (agrRows houseX 1 [0, 0] 410 420) 0 = 180 := by
    unfold histN
    rw [houseH0]
    kernel_rfl
  have w1 : histN houseX 1 [0, 0] (agrRows houseX 1 [0, 0] 410 420) 1 = 550 := by
    unfold histN
    rw [houseH1]
    simp only [winN, houseH0]
    kernel_rfl
  have w2 : histN houseX 1 [0, 0] (agrRows houseX 1 [0, 0] 410 420) 2 = 410 := by
    unfold histN
    rw [houseH2]
    simp only [winN, houseH0, houseH1]
    kernel_rfl
  show [histN houseX 1 [0, 0] (agrRows houseX 1 [0, 0] 410 420) 0, histN houseX 1 [0, 0] (agrRows houseX 1 [0, 0] 410 420) 1, histN houseX 1 [0, 0] (agrRows houseX 1 [0, 0] 410 420) 2] = _
  rw [w0, w1, w2]
theorem houseHist3 : histErr houseX 1 [0, 0] [180, 550, 410] = 0 := by kernel_rfl
theorem houseSome : someErr houseX 410 420 = 0 := by kernel_rfl
theorem houseMak : makErr houseX 410 420 = 0 := by kernel_rfl
theorem houseTot : totN houseX 410 420 = 3 := by kernel_rfl
theorem houseBars : leftN houseX 410 420 (-1) = [0, 1] := by kernel_rfl
theorem houseLeft0 : leftN houseX 410 420 0 = [0, 1] := by kernel_rfl
theorem houseLeft1 : leftN houseX 410 420 1 = [0] := by kernel_rfl
theorem houseAsk : askV houseX 410 420 = .tuple #[.int .i64 (-1), .int .i64 2, .int .i64 0] := by kernel_rfl
theorem houseNone : makErr houseX 481 500 = 0 ∧ totN houseX 481 500 = 0 ∧ someErr houseX 481 500 = 17 := ⟨by kernel_rfl, by kernel_rfl, by kernel_rfl⟩
end Go.Proofs.Ytigpefjeelgfdaa

/-
  Walks of layer 1, sixth part: the reference's CheckWay.
-/
namespace Go.Proofs.Ytigpefjeelgfdaa
open Go.RowKit

theorem wayErr_range {ks : List Kink} {k : Nat} (n1 : ¬ ks.length < 1) (n2 : ¬ 12 < ks.length) (hk : k < ks.length) (h : kinkOk' ks k = false) : wayErr ks = 3 := by
  have : kinksOk ks = false := by rw [← kinksOk_eq]; exact UptoN.fail hk h
  unfold wayErr
  rw [if_neg (by omega), if_pos this]
theorem wayErr_rule {ks : List Kink} {k : Nat} (n1 : ¬ ks.length < 1) (n2 : ¬ 12 < ks.length) (h1 : kinksOk ks = true) (hk : k < ks.length - 1) (h : stepOk ks k = false) : wayErr ks = 16 := by
  have : stepsOk ks = false := UptoN.fail hk h
  unfold wayErr
  rw [if_neg (by omega), if_neg (by simp [h1]), if_pos this]
theorem wayErr_ok {ks : List Kink} (n1 : ¬ ks.length < 1) (n2 : ¬ 12 < ks.length) (h1 : kinksOk ks = true) (h2 : stepsOk ks = true) : wayErr ks = 0 := by
  unfold wayErr
  rw [if_neg (by omega), if_neg (by simp [h1]), if_neg (by simp [h2])]

set_option maxRecDepth 100000 in
set_option maxHeartbeats 4000000 in
theorem refCheckWay_in (A : Option Addr) (c : Nat) (ks : List Kink) (B : Nat) (w : World) (h : KinksA w B A ks) (hc : ks.length ≤ c) (hm : c ≤ 9223372036854775807) (hB : B ≤ w.heap.size)
    (n1 : ¬ ks.length < 1) (n2 : ¬ 12 < ks.length) :
    Calls Try.prog 20 #[.agg #[.slice A ks.length c]] w fun e w' => e = .returned (.int .i64 (wayErr ks)) ∧ Below w.heap.size w w' := by
  go_enter Try.func20, Try.ntmps20
  go_wp2_with fail
  go_loopw [3, 4] (fun i _ wr => ∃ (k : Nat), k ≤ ks.length ∧ i = .int .i64 k ∧ UptoN (kinkOk' ks) k ∧ Below w.heap.size w wr ∧ Box wr w.heap.size 28 #[.slice A ks.length c])
    (fun i _ _ => ks.length - (intOf i).toNat)
  case atStart =>
    refine ⟨0, by omega, rfl, UptoN.zero _, (by repeat (first | (with_reducible assumption) | (with_reducible exact Below.refl _ _) | ((with_reducible refine Below.alloc ?_ ?_ _); rotate_left; (focus (first | omega | (simp only [World.size_alloc, World.size_setCell, World.size_drew, World.heap_drewN]; first | done | omega)))) | ((with_reducible refine Below.setCell ?_ ?_ _); rotate_left; (focus (first | omega | (simp only [World.size_alloc, World.size_setCell, World.size_drew, World.heap_drewN]; first | done | omega)))) | (with_reducible refine below_drewN ?_ _) | (with_reducible refine Below.drew ?_) | ((with_reducible refine Below.trans ?_ (Below.mono (by assumption) ?_)); rotate_left; (focus (first | omega | (simp only [World.size_alloc, World.size_setCell, World.size_drew, World.heap_drewN]; first | done | omega)))))), ?_⟩
    (refine Box.of_f ?_; repeat (first | ((with_reducible refine BoxF.done (by with_reducible assumption) ?_); rfl) | ((with_reducible refine BoxF.new ?_ ?_); (focus (first | omega | (simp only [World.size_alloc, World.size_setCell, World.size_drew, World.heap_drewN]; first | done | omega))); rfl) | ((with_reducible refine BoxF.alloc ?_ ?_); (focus (first | omega | (simp only [World.size_alloc, World.size_setCell, World.size_drew, World.heap_drewN]; first | done | omega)))) | (with_reducible refine BoxF.set ?_) | ((with_reducible refine BoxF.far ?_ ?_); ((try simp only []); omega)) | (with_reducible refine BoxF.drewN ?_) | (with_reducible refine BoxF.drew ?_) | ((with_reducible refine BoxF.below (by with_reducible assumption) ?_ ?_); (focus (first | omega | (simp only [World.size_alloc, World.size_setCell, World.size_drew, World.heap_drewN]; first | done | omega))))))
  case round =>
    obtain ⟨k, hk, hi, hup, hbl, bw⟩ := hrel
    obtain ⟨w1, w2⟩ := bw.one
    have hs := bw.lt
    by_cases hlt : k < ks.length
    · obtain ⟨b, off, f, x, y, rfl, hb, hx, d0, d1, d2⟩ := kinksA (kinks_on h hbl hB) hlt
      have hbr : b < wr.heap.size := by omega
      have hkk := Lib.hid (kk_of hx)
      have bad3 : Hid (kinkOk' ks k = false → wayErr ks = 3) := wayErr_range n1 n2 hlt
      by_cases hk0 : k = 0
      · subst hk0
        simp only [Nat.zero_mul, Nat.add_zero] at d0 d1 d2
        simp only [Int.natCast_zero] at hi
        subst hi
        by_cases g3 : f = 0
        · subst g3
          rcases isHard_cases x y with g2 | g2
          · have Ok : Hid (kinkOk' ks 0 = true) := by simp [Hid, kinkOk', hkk.out, g2]
            have G2 := Lib.hid g2
            clear g2 bad3
            go_wp2_with fail
            refine wp_region_later (by kernel_rfl) (by kernel_rfl) ?_; have _hl := later_reads (wr.alloc (.cells #[.int .i64 0, .int .i64 x, .int .i64 y] 93)); (repeat (go_big_quiet_step ((go_at_call 47; have q := refIsHard_any x y; rw [G2.out] at q; exact LaterW.calls (q _))))); refine wpQuiet_nil ?_; intro w1 hw'; have hb_w1 := later_below hw'; clear hw' _hl
            go_wp2_with fail
            go_roundw
            case rel =>
              refine ⟨1, by omega, by go_num, hup.succ Ok.out, (by repeat (first | (with_reducible assumption) | (with_reducible exact Below.refl _ _) | ((with_reducible refine Below.alloc ?_ ?_ _); rotate_left; (focus (first | omega | (simp only [World.size_alloc, World.size_setCell, World.size_drew, World.heap_drewN]; first | done | omega)))) | ((with_reducible refine Below.setCell ?_ ?_ _); rotate_left; (focus (first | omega | (simp only [World.size_alloc, World.size_setCell, World.size_drew, World.heap_drewN]; first | done | omega)))) | (with_reducible refine below_drewN ?_ _) | (with_reducible refine Below.drew ?_) | ((with_reducible refine Below.trans ?_ (Below.mono (by assumption) ?_)); rotate_left; (focus (first | omega | (simp only [World.size_alloc, World.size_setCell, World.size_drew, World.heap_drewN]; first | done | omega)))))), ?_⟩
              (refine Box.of_f ?_; repeat (first | ((with_reducible refine BoxF.done (by with_reducible assumption) ?_); rfl) | ((with_reducible refine BoxF.new ?_ ?_); (focus (first | omega | (simp only [World.size_alloc, World.size_setCell, World.size_drew, World.heap_drewN]; first | done | omega))); rfl) | ((with_reducible refine BoxF.alloc ?_ ?_); (focus (first | omega | (simp only [World.size_alloc, World.size_setCell, World.size_drew, World.heap_drewN]; first | done | omega)))) | (with_reducible refine BoxF.set ?_) | ((with_reducible refine BoxF.far ?_ ?_); ((try simp only []); omega)) | (with_reducible refine BoxF.drewN ?_) | (with_reducible refine BoxF.drew ?_) | ((with_reducible refine BoxF.below (by with_reducible assumption) ?_ ?_); (focus (first | omega | (simp only [World.size_alloc, World.size_setCell, World.size_drew, World.heap_drewN]; first | done | omega))))))
            case measure => simp [intOf]; omega
          · have R : Hid (wayErr ks = 3) := bad3.out (by simp [kinkOk', hkk.out, g2])
            have G2 := Lib.hid g2
            clear g2 bad3
            go_wp2_with fail
            refine wp_region_later (by kernel_rfl) (by kernel_rfl) ?_; have _hl := later_reads (wr.alloc (.cells #[.int .i64 0, .int .i64 x, .int .i64 y] 93)); (repeat (go_big_quiet_step ((go_at_call 47; have q := refIsHard_any x y; rw [G2.out] at q; exact LaterW.calls (q _))))); refine wpQuiet_nil ?_; intro w1 hw'; have hb_w1 := later_below hw'; clear hw' _hl
            go_wp2_with fail
            go_ret
            exact ⟨ret_int R.out.symm, (by repeat (first | (with_reducible assumption) | (with_reducible exact Below.refl _ _) | ((with_reducible refine Below.alloc ?_ ?_ _); rotate_left; (focus (first | omega | (simp only [World.size_alloc, World.size_setCell, World.size_drew, World.heap_drewN]; first | done | omega)))) | ((with_reducible refine Below.setCell ?_ ?_ _); rotate_left; (focus (first | omega | (simp only [World.size_alloc, World.size_setCell, World.size_drew, World.heap_drewN]; first | done | omega)))) | (with_reducible refine below_drewN ?_ _) | (with_reducible refine Below.drew ?_) | ((with_reducible refine Below.trans ?_ (Below.mono (by assumption) ?_)); rotate_left; (focus (first | omega | (simp only [World.size_alloc, World.size_setCell, World.size_drew, World.heap_drewN]; first | done | omega))))))⟩
        · have R : Hid (wayErr ks = 3) := bad3.out (by simp [kinkOk', hkk.out, g3])
          have g3' : (f != 0) = true := by simp [g3]
          clear bad3
          go_wp2_with fail
          refine wp_region_later (by kernel_rfl) (by kernel_rfl) ?_; have _hl := later_reads (wr.alloc (.cells #[.int .i64 f, .int .i64 x, .int .i64 y] 93)); (repeat (go_big_quiet_step (fail))); refine wpQuiet_nil ?_; intro w1 hw'; have hb_w1 := later_below hw'; clear hw' _hl
          go_wp2_with fail
          go_ret
          exact ⟨ret_int R.out.symm, (by repeat (first | (with_reducible assumption) | (with_reducible exact Below.refl _ _) | ((with_reducible refine Below.alloc ?_ ?_ _); rotate_left; (focus (first | omega | (simp only [World.size_alloc, World.size_setCell, World.size_drew, World.heap_drewN]; first | done | omega)))) | ((with_reducible refine Below.setCell ?_ ?_ _); rotate_left; (focus (first | omega | (simp only [World.size_alloc, World.size_setCell, World.size_drew, World.heap_drewN]; first | done | omega)))) | (with_reducible refine below_drewN ?_ _) | (with_reducible refine Below.drew ?_) | ((with_reducible refine Below.trans ?_ (Below.mono (by assumption) ?_)); rotate_left; (focus (first | omega | (simp only [World.size_alloc, World.size_setCell, World.size_drew, World.heap_drewN]; first | done | omega))))))⟩
      · obtain ⟨j, rfl⟩ : ∃ j, k = j + 1 := ⟨k - 1, by omega⟩
        clear hk0
        have hi' := hi.trans (show Value.int .i64 ((j + 1 : Nat) : Int) = .int .i64 ((j : Int) + 1) from by simp)
        clear hi
        subst hi'
        obtain ⟨b', off', p, x', y', e, hb', hx', c0, c1, c2⟩ := kinksA (kinks_on h hbl hB) (i := j) (by omega)
        obtain ⟨rfl, rfl⟩ : b' = b ∧ off' = off := by simp at e; exact ⟨e.1.symm, e.2.symm⟩
        clear e
        have hkk' := Lib.hid (kk_of hx')
        have z1 : ((j : Int) + 1 == 0) = false := by simp; omega
        have z2 : decide ((0 : Int) < (j : Int) + 1) = true := by simp; try omega
        have z3 : IntKind.i64.wrap (j : Int) = (j : Int) := IntWalk.i64_in _ (by omega)
        have z4 : (0 : Int) ≤ (j : Int) := by omega
        have z5 : (j : Int) < (ks.length : Int) := by omega
        by_cases g3 : f ≤ p
        · have R : Hid (wayErr ks = 3) := bad3.out (by simp [kinkOk', hkk.out, hkk'.out, g3])
          clear bad3
          go_wp2_with fail
          refine wp_region_later (by kernel_rfl) (by kernel_rfl) ?_; have _hl := later_reads (wr.alloc (.cells #[.int .i64 f, .int .i64 x, .int .i64 y] 93)); (repeat (go_big_quiet_step (fail))); refine wpQuiet_nil ?_; intro w1 hw'; have hb_w1 := later_below hw'; clear hw' _hl
          go_wp2_with fail
          go_ret
          exact ⟨ret_int R.out.symm, (by repeat (first | (with_reducible assumption) | (with_reducible exact Below.refl _ _) | ((with_reducible refine Below.alloc ?_ ?_ _); rotate_left; (focus (first | omega | (simp only [World.size_alloc, World.size_setCell, World.size_drew, World.heap_drewN]; first | done | omega)))) | ((with_reducible refine Below.setCell ?_ ?_ _); rotate_left; (focus (first | omega | (simp only [World.size_alloc, World.size_setCell, World.size_drew, World.heap_drewN]; first | done | omega)))) | (with_reducible refine below_drewN ?_ _) | (with_reducible refine Below.drew ?_) | ((with_reducible refine Below.trans ?_ (Below.mono (by assumption) ?_)); rotate_left; (focus (first | omega | (simp only [World.size_alloc, World.size_setCell, World.size_drew, World.heap_drewN]; first | done | omega))))))⟩
        · have g3' : decide (f ≤ p) = false := by simpa using g3
          by_cases g4 : 1000 < f
          · have R : Hid (wayErr ks = 3) := bad3.out (by simp [kinkOk', hkk.out, hkk'.out]; omega)
            clear bad3
            go_wp2_with fail
            refine wp_region_later (by kernel_rfl) (by kernel_rfl) ?_; have _hl := later_reads (wr.alloc (.cells #[.int .i64 f, .int .i64 x, .int .i64 y] 93)); (repeat (go_big_quiet_step (fail))); refine wpQuiet_nil ?_; intro w1 hw'; have hb_w1 := later_below hw'; clear hw' _hl
            go_wp2_with fail
            go_ret
            exact ⟨ret_int R.out.symm, (by repeat (first | (with_reducible assumption) | (with_reducible exact Below.refl _ _) | ((with_reducible refine Below.alloc ?_ ?_ _); rotate_left; (focus (first | omega | (simp only [World.size_alloc, World.size_setCell, World.size_drew, World.heap_drewN]; first | done | omega)))) | ((with_reducible refine Below.setCell ?_ ?_ _); rotate_left; (focus (first | omega | (simp only [World.size_alloc, World.size_setCell, World.size_drew, World.heap_drewN]; first | done | omega)))) | (with_reducible refine below_drewN ?_ _) | (with_reducible refine Below.drew ?_) | ((with_reducible refine Below.trans ?_ (Below.mono (by assumption) ?_)); rotate_left; (focus (first | omega | (simp only [World.size_alloc, World.size_setCell, World.size_drew, World.heap_drewN]; first | done | omega))))))⟩
          · have g4' : decide (1000 < f) = false := by simpa using g4
            rcases isHard_cases x y with g2 | g2
            · have Ok : Hid (kinkOk' ks (j + 1) = true) := by simp [Hid, kinkOk', hkk.out, hkk'.out, g2]; omega
              have G2 := Lib.hid g2
              clear g2 bad3
              go_wp2_with fail
              refine wp_region_later (by kernel_rfl) (by kernel_rfl) ?_; have _hl := later_reads (wr.alloc (.cells #[.int .i64 f, .int .i64 x, .int .i64 y] 93)); (repeat (go_big_quiet_step ((go_at_call 47; have q := refIsHard_any x y; rw [G2.out] at q; exact LaterW.calls (q _))))); refine wpQuiet_nil ?_; intro w1 hw'; have hb_w1 := later_below hw'; clear hw' _hl
              go_wp2_with fail
              go_roundw
              case rel =>
                refine ⟨j + 1 + 1, by omega, by go_num, hup.succ Ok.out, (by repeat (first | (with_reducible assumption) | (with_reducible exact Below.refl _ _) | ((with_reducible refine Below.alloc ?_ ?_ _); rotate_left; (focus (first | omega | (simp only [World.size_alloc, World.size_setCell, World.size_drew, World.heap_drewN]; first | done | omega)))) | ((with_reducible refine Below.setCell ?_ ?_ _); rotate_left; (focus (first | omega | (simp only [World.size_alloc, World.size_setCell, World.size_drew, World.heap_drewN]; first | done | omega)))) | (with_reducible refine below_drewN ?_ _) | (with_reducible refine Below.drew ?_) | ((with_reducible refine Below.trans ?_ (Below.mono (by assumption) ?_)); rotate_left; (focus (first | omega | (simp only [World.size_alloc, World.size_setCell, World.size_drew, World.heap_drewN]; first | done | omega)))))), ?_⟩
                (refine Box.of_f ?_; repeat (first | ((with_reducible refine BoxF.done (by with_reducible assumption) ?_); rfl) | ((with_reducible refine BoxF.new ?_ ?_); (focus (first | omega | (simp only [World.size_alloc, World.size_setCell, World.size_drew, World.heap_drewN]; first | done | omega))); rfl) | ((with_reducible refine BoxF.alloc ?_ ?_); (focus (first | omega | (simp only [World.size_alloc, World.size_setCell, World.size_drew, World.heap_drewN]; first | done | omega)))) | (with_reducible refine BoxF.set ?_) | ((with_reducible refine BoxF.far ?_ ?_); ((try simp only []); omega)) | (with_reducible refine BoxF.drewN ?_) | (with_reducible refine BoxF.drew ?_) | ((with_reducible refine BoxF.below (by with_reducible assumption) ?_ ?_); (focus (first | omega | (simp only [World.size_alloc, World.size_setCell, World.size_drew, World.heap_drewN]; first | done | omega))))))
              case measure => simp [intOf]; omega
            · have R : Hid (wayErr ks = 3) := bad3.out (by simp [kinkOk', hkk.out, hkk'.out, g2])
              have G2 := Lib.hid g2
              clear g2 bad3
              go_wp2_with fail
              refine wp_region_later (by kernel_rfl) (by kernel_rfl) ?_; have _hl := later_reads (wr.alloc (.cells #[.int .i64 f, .int .i64 x, .int .i64 y] 93)); (repeat (go_big_quiet_step ((go_at_call 47; have q := refIsHard_any x y; rw [G2.out] at q; exact LaterW.calls (q _))))); refine wpQuiet_nil ?_; intro w1 hw'; have hb_w1 := later_below hw'; clear hw' _hl
              go_wp2_with fail
              go_ret
              exact ⟨ret_int R.out.symm, (by repeat (first | (with_reducible assumption) | (with_reducible exact Below.refl _ _) | ((with_reducible refine Below.alloc ?_ ?_ _); rotate_left; (focus (first | omega | (simp only [World.size_alloc, World.size_setCell, World.size_drew, World.heap_drewN]; first | done | omega)))) | ((with_reducible refine Below.setCell ?_ ?_ _); rotate_left; (focus (first | omega | (simp only [World.size_alloc, World.size_setCell, World.size_drew, World.heap_drewN]; first | done | omega)))) | (with_reducible refine below_drewN ?_ _) | (with_reducible refine Below.drew ?_) | ((with_reducible refine Below.trans ?_ (Below.mono (by assumption) ?_)); rotate_left; (focus (first | omega | (simp only [World.size_alloc, World.size_setCell, World.size_drew, World.heap_drewN]; first | done | omega))))))⟩
    · subst hi
      have h1 : kinksOk ks = true := by rw [← kinksOk_eq]; exact hup.done (by omega)
      have V := kinksVal_of h1
      have H1 := Lib.hid h1
      clear h1
      have hwr := hbl.size
      clear hup
      go_wp2_with fail
      obtain ⟨wo, rfl⟩ : ∃ wo : World, wo = wr := ⟨_, rfl⟩
      go_loopw [5, 6, 7] (fun i _ _ wr => ∃ (j : Nat), j ≤ ks.length ∧ i = .int .i64 (j + 1) ∧ UptoN (stepOk ks) j ∧ Below w.heap.size w wr ∧ Box wr w.heap.size 28 #[.slice A ks.length c])
        (fun i _ _ _ => ks.length + 1 - (intOf i).toNat)
      case atStart =>
        refine ⟨0, by omega, rfl, UptoN.zero _, (by repeat (first | (with_reducible assumption) | (with_reducible exact Below.refl _ _) | ((with_reducible refine Below.alloc ?_ ?_ _); rotate_left; (focus (first | omega | (simp only [World.size_alloc, World.size_setCell, World.size_drew, World.heap_drewN]; first | done | omega)))) | ((with_reducible refine Below.setCell ?_ ?_ _); rotate_left; (focus (first | omega | (simp only [World.size_alloc, World.size_setCell, World.size_drew, World.heap_drewN]; first | done | omega)))) | (with_reducible refine below_drewN ?_ _) | (with_reducible refine Below.drew ?_) | ((with_reducible refine Below.trans ?_ (Below.mono (by assumption) ?_)); rotate_left; (focus (first | omega | (simp only [World.size_alloc, World.size_setCell, World.size_drew, World.heap_drewN]; first | done | omega)))))), ?_⟩
        (refine Box.of_f ?_; repeat (first | ((with_reducible refine BoxF.done (by with_reducible assumption) ?_); rfl) | ((with_reducible refine BoxF.new ?_ ?_); (focus (first | omega | (simp only [World.size_alloc, World.size_setCell, World.size_drew, World.heap_drewN]; first | done | omega))); rfl) | ((with_reducible refine BoxF.alloc ?_ ?_); (focus (first | omega | (simp only [World.size_alloc, World.size_setCell, World.size_drew, World.heap_drewN]; first | done | omega)))) | (with_reducible refine BoxF.set ?_) | ((with_reducible refine BoxF.far ?_ ?_); ((try simp only []); omega)) | (with_reducible refine BoxF.drewN ?_) | (with_reducible refine BoxF.drew ?_) | ((with_reducible refine BoxF.below (by with_reducible assumption) ?_ ?_); (focus (first | omega | (simp only [World.size_alloc, World.size_setCell, World.size_drew, World.heap_drewN]; first | done | omega))))))
      case round =>
        obtain ⟨j, hk, rfl, hup, hbl, bw⟩ := hrel
        obtain ⟨w1, w2⟩ := bw.one
        have hs := bw.lt
        by_cases hlt : j + 1 < ks.length
        · obtain ⟨b, off, f, x, y, rfl, hb, hx, d0, d1, d2⟩ := kinksA (kinks_on h hbl hB) hlt
          obtain ⟨b', off', p, x', y', e, hb', hx', c0, c1, c2⟩ := kinksA (kinks_on h hbl hB) (i := j) (by omega)
          obtain ⟨rfl, rfl⟩ : b' = b ∧ off' = off := by simp at e; exact ⟨e.1.symm, e.2.symm⟩
          clear e
          have hkk := Lib.hid (kk_of hx)
          have hkk' := Lib.hid (kk_of hx')
          have hbr : b' < wr.heap.size := by omega
          obtain ⟨v1, v2, v3, _⟩ := V _ _ hx.out
          obtain ⟨u1, u2, u3, _⟩ := V _ _ hx'.out
          simp only at v1 v2 v3 u1 u2 u3
          have z3 : IntKind.i64.wrap (j : Int) = (j : Int) := IntWalk.i64_in _ (by omega)
          have z4 : (0 : Int) ≤ (j : Int) := by omega
          have z5 : (j : Int) < (ks.length : Int) := by omega
          have z6 : (j : Int) + 1 < (ks.length : Int) := by omega
          clear hx hx'
          rcases Bool.eq_false_or_eq_true (stepOk ks j) with q | q
          · have q' : ¬ (x < x' ∨ y < y' ∨ y' + 1 < x) := by simpa [stepOk, hkk.out, hkk'.out] using q
            obtain ⟨q1, q2, q3⟩ : ¬ x < x' ∧ ¬ y < y' ∧ ¬ y' + 1 < x := by omega
            have Q := Lib.hid q
            clear q q'
            go_wp2
            go_region
            all_goals
              go_wp2
              go_roundw
              case rel =>
                refine ⟨j + 1, by omega, by go_num, hup.succ Q.out, (by repeat (first | (with_reducible assumption) | (with_reducible exact Below.refl _ _) | ((with_reducible refine Below.alloc ?_ ?_ _); rotate_left; (focus (first | omega | (simp only [World.size_alloc, World.size_setCell, World.size_drew, World.heap_drewN]; first | done | omega)))) | ((with_reducible refine Below.setCell ?_ ?_ _); rotate_left; (focus (first | omega | (simp only [World.size_alloc, World.size_setCell, World.size_drew, World.heap_drewN]; first | done | omega)))) | (with_reducible refine below_drewN ?_ _) | (with_reducible refine Below.drew ?_) | ((with_reducible refine Below.trans ?_ (Below.mono (by assumption) ?_)); rotate_left; (focus (first | omega | (simp only [World.size_alloc, World.size_setCell, World.size_drew, World.heap_drewN]; first | done | omega)))))), ?_⟩
                (refine Box.of_f ?_; repeat (first | ((with_reducible refine BoxF.done (by with_reducible assumption) ?_); rfl) | ((with_reducible refine BoxF.new ?_ ?_); (focus (first | omega | (simp only [World.size_alloc, World.size_setCell, World.size_drew, World.heap_drewN]; first | done | omega))); rfl) | ((with_reducible refine BoxF.alloc ?_ ?_); (focus (first | omega | (simp only [World.size_alloc, World.size_setCell, World.size_drew, World.heap_drewN]; first | done | omega)))) | (with_reducible refine BoxF.set ?_) | ((with_reducible refine BoxF.far ?_ ?_); ((try simp only []); omega)) | (with_reducible refine BoxF.drewN ?_) | (with_reducible refine BoxF.drew ?_) | ((with_reducible refine BoxF.below (by with_reducible assumption) ?_ ?_); (focus (first | omega | (simp only [World.size_alloc, World.size_setCell, World.size_drew, World.heap_drewN]; first | done | omega))))))
              case measure => simp [intOf]; omega
          · have q' : x < x' ∨ y < y' ∨ y' + 1 < x := by simp [stepOk, hkk.out, hkk'.out] at q; omega
            have R : Hid (wayErr ks = 16) := wayErr_rule n1 n2 H1.out (by omega) q
            clear q
            by_cases q1 : x < x'
            · clear q'
              go_wp2
              go_region
              all_goals
                go_wp2
                go_ret
                exact ⟨ret_int R.out.symm, (by repeat (first | (with_reducible assumption) | (with_reducible exact Below.refl _ _) | ((with_reducible refine Below.alloc ?_ ?_ _); rotate_left; (focus (first | omega | (simp only [World.size_alloc, World.size_setCell, World.size_drew, World.heap_drewN]; first | done | omega)))) | ((with_reducible refine Below.setCell ?_ ?_ _); rotate_left; (focus (first | omega | (simp only [World.size_alloc, World.size_setCell, World.size_drew, World.heap_drewN]; first | done | omega)))) | (with_reducible refine below_drewN ?_ _) | (with_reducible refine Below.drew ?_) | ((with_reducible refine Below.trans ?_ (Below.mono (by assumption) ?_)); rotate_left; (focus (first | omega | (simp only [World.size_alloc, World.size_setCell, World.size_drew, World.heap_drewN]; first | done | omega))))))⟩
            by_cases q2 : y < y'
            · clear q'
              go_wp2
              go_region
              all_goals
                go_wp2
                go_ret
                exact ⟨ret_int R.out.symm, (by repeat (first | (with_reducible assumption) | (with_reducible exact Below.refl _ _) | ((with_reducible refine Below.alloc ?_ ?_ _); rotate_left; (focus (first | omega | (simp only [World.size_alloc, World.size_setCell, World.size_drew, World.heap_drewN]; first | done | omega)))) | ((with_reducible refine Below.setCell ?_ ?_ _); rotate_left; (focus (first | omega | (simp only [World.size_alloc, World.size_setCell, World.size_drew, World.heap_drewN]; first | done | omega)))) | (with_reducible refine below_drewN ?_ _) | (with_reducible refine Below.drew ?_) | ((with_reducible refine Below.trans ?_ (Below.mono (by assumption) ?_)); rotate_left; (focus (first | omega | (simp only [World.size_alloc, World.size_setCell, World.size_drew, World.heap_drewN]; first | done | omega))))))⟩
            have q3 : y' + 1 < x := by omega
            clear q'
            go_wp2
            go_region
            all_goals
              go_wp2
              go_ret
              exact ⟨ret_int R.out.symm, (by repeat (first | (with_reducible assumption) | (with_reducible exact Below.refl _ _) | ((with_reducible refine Below.alloc ?_ ?_ _); rotate_left; (focus (first | omega | (simp only [World.size_alloc, World.size_setCell, World.size_drew, World.heap_drewN]; first | done | omega)))) | ((with_reducible refine Below.setCell ?_ ?_ _); rotate_left; (focus (first | omega | (simp only [World.size_alloc, World.size_setCell, World.size_drew, World.heap_drewN]; first | done | omega)))) | (with_reducible refine below_drewN ?_ _) | (with_reducible refine Below.drew ?_) | ((with_reducible refine Below.trans ?_ (Below.mono (by assumption) ?_)); rotate_left; (focus (first | omega | (simp only [World.size_alloc, World.size_setCell, World.size_drew, World.heap_drewN]; first | done | omega))))))⟩
        · have R : Hid (wayErr ks = 0) := wayErr_ok n1 n2 H1.out (UptoN.done hup (by omega))
          go_wp2
          go_ret
          exact ⟨ret_int R.out.symm, (by repeat (first | (with_reducible assumption) | (with_reducible exact Below.refl _ _) | ((with_reducible refine Below.alloc ?_ ?_ _); rotate_left; (focus (first | omega | (simp only [World.size_alloc, World.size_setCell, World.size_drew, World.heap_drewN]; first | done | omega)))) | ((with_reducible refine Below.setCell ?_ ?_ _); rotate_left; (focus (first | omega | (simp only [World.size_alloc, World.size_setCell, World.size_drew, World.heap_drewN]; first | done | omega)))) | (with_reducible refine below_drewN ?_ _) | (with_reducible refine Below.drew ?_) | ((with_reducible refine Below.trans ?_ (Below.mono (by assumption) ?_)); rotate_left; (focus (first | omega | (simp only [World.size_alloc, World.size_setCell, World.size_drew, World.heap_drewN]; first | done | omega))))))⟩

set_option maxHeartbeats 400000 in
theorem refCheckWay_any (A : Option Addr) (c : Nat) (ks : List Kink) (B : Nat) (w : World) (h : KinksA w B A ks) (hc : ks.length ≤ c) (hm : c ≤ 9223372036854775807) (hB : B ≤ w.heap.size) :
    Calls Try.prog 20 #[.agg #[.slice A ks.length c]] w fun e w' => e = .returned (.int .i64 (wayErr ks)) ∧ Below w.heap.size w w' := by
  by_cases g1 : ks.length < 1 ∨ 12 < ks.length
  · have E : Hid (wayErr ks = 6) := by simp only [Hid, wayErr]; rw [if_pos g1]
    by_cases g2 : ks.length < 1
    · clear g1
      go_enter Try.func20, Try.ntmps20
      go_wp2_with fail
      go_ret
      exact ⟨ret_int E.out.symm, (by repeat (first | (with_reducible assumption) | (with_reducible exact Below.refl _ _) | ((with_reducible refine Below.alloc ?_ ?_ _); rotate_left; (focus (first | omega | (simp only [World.size_alloc, World.size_setCell, World.size_drew, World.heap_drewN]; first | done | omega)))) | ((with_reducible refine Below.setCell ?_ ?_ _); rotate_left; (focus (first | omega | (simp only [World.size_alloc, World.size_setCell, World.size_drew, World.heap_drewN]; first | done | omega)))) | (with_reducible refine below_drewN ?_ _) | (with_reducible refine Below.drew ?_) | ((with_reducible refine Below.trans ?_ (Below.mono (by assumption) ?_)); rotate_left; (focus (first | omega | (simp only [World.size_alloc, World.size_setCell, World.size_drew, World.heap_drewN]; first | done | omega))))))⟩
    · have g3 : 12 < ks.length := by omega
      clear g1
      go_enter Try.func20, Try.ntmps20
      go_wp2_with fail
      go_ret
      exact ⟨ret_int E.out.symm, (by repeat (first | (with_reducible assumption) | (with_reducible exact Below.refl _ _) | ((with_reducible refine Below.alloc ?_ ?_ _); rotate_left; (focus (first | omega | (simp only [World.size_alloc, World.size_setCell, World.size_drew, World.heap_drewN]; first | done | omega)))) | ((with_reducible refine Below.setCell ?_ ?_ _); rotate_left; (focus (first | omega | (simp only [World.size_alloc, World.size_setCell, World.size_drew, World.heap_drewN]; first | done | omega)))) | (with_reducible refine below_drewN ?_ _) | (with_reducible refine Below.drew ?_) | ((with_reducible refine Below.trans ?_ (Below.mono (by assumption) ?_)); rotate_left; (focus (first | omega | (simp only [World.size_alloc, World.size_setCell, World.size_drew, World.heap_drewN]; first | done | omega))))))⟩
  · exact refCheckWay_in A c ks B w h hc hm hB (by omega) (by omega)
end Go.Proofs.Ytigpefjeelgfdaa

/-
  Walks of layer 1, eighth part: the reference's works, and its After.
-/
namespace Go.Proofs.Ytigpefjeelgfdaa
open Go.RowKit

set_option maxRecDepth 100000 in
set_option maxHeartbeats 4000000 in
theorem refCheckWorks_any (Ab As : Option Addr) (cb cs : Nat) (x : Works) (B : Nat) (w : World) (hbs : RgsA w B Ab x.bars) (hs : StepsA w B As x.steps) (hc : x.steps.length ≤ cs) (hm : cs ≤ 9223372036854775807) (hcb : x.bars.length ≤ cb) (hmb : cb ≤ 9223372036854775807) (hB : B ≤ w.heap.size) :
    Calls Try.prog 22 #[.agg #[.slice Ab x.bars.length cb, .slice As x.steps.length cs]] w fun e w' => e = .returned (.int .i64 (worksErr x)) ∧ Below w.heap.size w w' := by
  by_cases g1 : x.bars.length < 1 ∨ 6 < x.bars.length ∨ 6 < x.steps.length
  · have R : Hid (worksErr x = 6) := worksErr_many (by simp only [manyOk, g1]; simp)
    by_cases q1 : x.bars.length < 1
    · clear g1
      go_enter Try.func22, Try.ntmps22
      go_wp2_with fail
      go_ret
      exact ⟨ret_int R.out.symm, (by repeat (first | (with_reducible assumption) | (with_reducible exact Below.refl _ _) | ((with_reducible refine Below.alloc ?_ ?_ _); rotate_left; (focus (first | omega | (simp only [World.size_alloc, World.size_setCell, World.size_drew, World.heap_drewN]; first | done | omega)))) | ((with_reducible refine Below.setCell ?_ ?_ _); rotate_left; (focus (first | omega | (simp only [World.size_alloc, World.size_setCell, World.size_drew, World.heap_drewN]; first | done | omega)))) | (with_reducible refine below_drewN ?_ _) | (with_reducible refine Below.drew ?_) | ((with_reducible refine Below.trans ?_ (Below.mono (by assumption) ?_)); rotate_left; (focus (first | omega | (simp only [World.size_alloc, World.size_setCell, World.size_drew, World.heap_drewN]; first | done | omega))))))⟩
    by_cases q2 : 6 < x.bars.length
    · clear g1
      go_enter Try.func22, Try.ntmps22
      go_wp2_with fail
      go_ret
      exact ⟨ret_int R.out.symm, (by repeat (first | (with_reducible assumption) | (with_reducible exact Below.refl _ _) | ((with_reducible refine Below.alloc ?_ ?_ _); rotate_left; (focus (first | omega | (simp only [World.size_alloc, World.size_setCell, World.size_drew, World.heap_drewN]; first | done | omega)))) | ((with_reducible refine Below.setCell ?_ ?_ _); rotate_left; (focus (first | omega | (simp only [World.size_alloc, World.size_setCell, World.size_drew, World.heap_drewN]; first | done | omega)))) | (with_reducible refine below_drewN ?_ _) | (with_reducible refine Below.drew ?_) | ((with_reducible refine Below.trans ?_ (Below.mono (by assumption) ?_)); rotate_left; (focus (first | omega | (simp only [World.size_alloc, World.size_setCell, World.size_drew, World.heap_drewN]; first | done | omega))))))⟩
    have q3 : 6 < x.steps.length := by omega
    clear g1
    go_enter Try.func22, Try.ntmps22
    go_wp2_with fail
    go_ret
    exact ⟨ret_int R.out.symm, (by repeat (first | (with_reducible assumption) | (with_reducible exact Below.refl _ _) | ((with_reducible refine Below.alloc ?_ ?_ _); rotate_left; (focus (first | omega | (simp only [World.size_alloc, World.size_setCell, World.size_drew, World.heap_drewN]; first | done | omega)))) | ((with_reducible refine Below.setCell ?_ ?_ _); rotate_left; (focus (first | omega | (simp only [World.size_alloc, World.size_setCell, World.size_drew, World.heap_drewN]; first | done | omega)))) | (with_reducible refine below_drewN ?_ _) | (with_reducible refine Below.drew ?_) | ((with_reducible refine Below.trans ?_ (Below.mono (by assumption) ?_)); rotate_left; (focus (first | omega | (simp only [World.size_alloc, World.size_setCell, World.size_drew, World.heap_drewN]; first | done | omega))))))⟩
  obtain ⟨q1, q2, q3⟩ : ¬ x.bars.length < 1 ∧ ¬ 6 < x.bars.length ∧ ¬ 6 < x.steps.length := by omega
  have E : Hid (manyOk x = x.steps.all waysMany) := by simp only [Hid, manyOk, g1]; simp
  clear g1
  go_enter Try.func22, Try.ntmps22
  go_wp2_with fail
  go_loopw [3] (fun i wr => ∃ (k : Nat), k ≤ x.steps.length ∧ i = .int .i64 k ∧ Upto waysMany x.steps k ∧ Below w.heap.size w wr ∧ Box wr w.heap.size 25 #[.slice Ab x.bars.length cb, .slice As x.steps.length cs])
    (fun i _ => x.steps.length - (intOf i).toNat)
  case atStart =>
    refine ⟨0, by omega, rfl, Upto.zero _ _, (by repeat (first | (with_reducible assumption) | (with_reducible exact Below.refl _ _) | ((with_reducible refine Below.alloc ?_ ?_ _); rotate_left; (focus (first | omega | (simp only [World.size_alloc, World.size_setCell, World.size_drew, World.heap_drewN]; first | done | omega)))) | ((with_reducible refine Below.setCell ?_ ?_ _); rotate_left; (focus (first | omega | (simp only [World.size_alloc, World.size_setCell, World.size_drew, World.heap_drewN]; first | done | omega)))) | (with_reducible refine below_drewN ?_ _) | (with_reducible refine Below.drew ?_) | ((with_reducible refine Below.trans ?_ (Below.mono (by assumption) ?_)); rotate_left; (focus (first | omega | (simp only [World.size_alloc, World.size_setCell, World.size_drew, World.heap_drewN]; first | done | omega)))))), ?_⟩
    (refine Box.of_f ?_; repeat (first | ((with_reducible refine BoxF.done (by with_reducible assumption) ?_); rfl) | ((with_reducible refine BoxF.new ?_ ?_); (focus (first | omega | (simp only [World.size_alloc, World.size_setCell, World.size_drew, World.heap_drewN]; first | done | omega))); rfl) | ((with_reducible refine BoxF.alloc ?_ ?_); (focus (first | omega | (simp only [World.size_alloc, World.size_setCell, World.size_drew, World.heap_drewN]; first | done | omega)))) | (with_reducible refine BoxF.set ?_) | ((with_reducible refine BoxF.far ?_ ?_); ((try simp only []); omega)) | (with_reducible refine BoxF.drewN ?_) | (with_reducible refine BoxF.drew ?_) | ((with_reducible refine BoxF.below (by with_reducible assumption) ?_ ?_); (focus (first | omega | (simp only [World.size_alloc, World.size_setCell, World.size_drew, World.heap_drewN]; first | done | omega))))))
  case round =>
    obtain ⟨k, hk, rfl, hup, hbl, bw⟩ := hrel
    obtain ⟨u1, u2, u3, u4⟩ := bw.two
    have hz := bw.lt
    by_cases hlt : k < x.steps.length
    · obtain ⟨b, off, A', c', ws, rfl, hb, hx, d0, l1, l2, hws⟩ := stepsA (steps_on hs hbl hB) hlt
      have hbr : b < wr.heap.size := by omega
      by_cases p1 : ws.length < 1
      · have R : Hid (worksErr x = 6) := worksErr_many (E.out.trans (Upto.fail hx (waysMany_f (.inl p1))))
        go_wp2_with fail
        go_ret
        exact ⟨ret_int R.out.symm, (by repeat (first | (with_reducible assumption) | (with_reducible exact Below.refl _ _) | ((with_reducible refine Below.alloc ?_ ?_ _); rotate_left; (focus (first | omega | (simp only [World.size_alloc, World.size_setCell, World.size_drew, World.heap_drewN]; first | done | omega)))) | ((with_reducible refine Below.setCell ?_ ?_ _); rotate_left; (focus (first | omega | (simp only [World.size_alloc, World.size_setCell, World.size_drew, World.heap_drewN]; first | done | omega)))) | (with_reducible refine below_drewN ?_ _) | (with_reducible refine Below.drew ?_) | ((with_reducible refine Below.trans ?_ (Below.mono (by assumption) ?_)); rotate_left; (focus (first | omega | (simp only [World.size_alloc, World.size_setCell, World.size_drew, World.heap_drewN]; first | done | omega))))))⟩
      by_cases p2 : 5 < ws.length
      · have R : Hid (worksErr x = 6) := worksErr_many (E.out.trans (Upto.fail hx (waysMany_f (.inr p2))))
        go_wp2_with fail
        go_ret
        exact ⟨ret_int R.out.symm, (by repeat (first | (with_reducible assumption) | (with_reducible exact Below.refl _ _) | ((with_reducible refine Below.alloc ?_ ?_ _); rotate_left; (focus (first | omega | (simp only [World.size_alloc, World.size_setCell, World.size_drew, World.heap_drewN]; first | done | omega)))) | ((with_reducible refine Below.setCell ?_ ?_ _); rotate_left; (focus (first | omega | (simp only [World.size_alloc, World.size_setCell, World.size_drew, World.heap_drewN]; first | done | omega)))) | (with_reducible refine below_drewN ?_ _) | (with_reducible refine Below.drew ?_) | ((with_reducible refine Below.trans ?_ (Below.mono (by assumption) ?_)); rotate_left; (focus (first | omega | (simp only [World.size_alloc, World.size_setCell, World.size_drew, World.heap_drewN]; first | done | omega))))))⟩
      have ok : Hid (waysMany ws = true) := waysMany_t p1 p2
      go_wp2_with fail
      go_roundw
      case rel =>
        refine ⟨k + 1, by omega, by go_num, hup.succ hx ok.out, (by repeat (first | (with_reducible assumption) | (with_reducible exact Below.refl _ _) | ((with_reducible refine Below.alloc ?_ ?_ _); rotate_left; (focus (first | omega | (simp only [World.size_alloc, World.size_setCell, World.size_drew, World.heap_drewN]; first | done | omega)))) | ((with_reducible refine Below.setCell ?_ ?_ _); rotate_left; (focus (first | omega | (simp only [World.size_alloc, World.size_setCell, World.size_drew, World.heap_drewN]; first | done | omega)))) | (with_reducible refine below_drewN ?_ _) | (with_reducible refine Below.drew ?_) | ((with_reducible refine Below.trans ?_ (Below.mono (by assumption) ?_)); rotate_left; (focus (first | omega | (simp only [World.size_alloc, World.size_setCell, World.size_drew, World.heap_drewN]; first | done | omega)))))), ?_⟩
        (refine Box.of_f ?_; repeat (first | ((with_reducible refine BoxF.done (by with_reducible assumption) ?_); rfl) | ((with_reducible refine BoxF.new ?_ ?_); (focus (first | omega | (simp only [World.size_alloc, World.size_setCell, World.size_drew, World.heap_drewN]; first | done | omega))); rfl) | ((with_reducible refine BoxF.alloc ?_ ?_); (focus (first | omega | (simp only [World.size_alloc, World.size_setCell, World.size_drew, World.heap_drewN]; first | done | omega)))) | (with_reducible refine BoxF.set ?_) | ((with_reducible refine BoxF.far ?_ ?_); ((try simp only []); omega)) | (with_reducible refine BoxF.drewN ?_) | (with_reducible refine BoxF.drew ?_) | ((with_reducible refine BoxF.below (by with_reducible assumption) ?_ ?_); (focus (first | omega | (simp only [World.size_alloc, World.size_setCell, World.size_drew, World.heap_drewN]; first | done | omega))))))
      case measure => simp [intOf]; omega
    · have g1 : manyOk x = true := E.out.trans (hup.done (by omega))
      have bad2 : Hid (x.bars.all barOk = false → worksErr x = 2) := worksErr_bar g1
      have way : Hid (x.bars.all barOk = true → worksErr x = errs (errs wayErr) x.steps) := worksErr_way g1
      clear hup g1
      go_wp2_with fail
      obtain ⟨wo, rfl⟩ : ∃ wo : World, wo = wr := ⟨_, rfl⟩
      go_loopw [4] (fun i wr => ∃ (k : Nat), k ≤ x.bars.length ∧ i = .int .i64 k ∧ Upto barOk x.bars k ∧ Below w.heap.size w wr ∧ Box wr w.heap.size 25 #[.slice Ab x.bars.length cb, .slice As x.steps.length cs])
        (fun i _ => x.bars.length - (intOf i).toNat)
      case atStart =>
        refine ⟨0, by omega, rfl, Upto.zero _ _, (by repeat (first | (with_reducible assumption) | (with_reducible exact Below.refl _ _) | ((with_reducible refine Below.alloc ?_ ?_ _); rotate_left; (focus (first | omega | (simp only [World.size_alloc, World.size_setCell, World.size_drew, World.heap_drewN]; first | done | omega)))) | ((with_reducible refine Below.setCell ?_ ?_ _); rotate_left; (focus (first | omega | (simp only [World.size_alloc, World.size_setCell, World.size_drew, World.heap_drewN]; first | done | omega)))) | (with_reducible refine below_drewN ?_ _) | (with_reducible refine Below.drew ?_) | ((with_reducible refine Below.trans ?_ (Below.mono (by assumption) ?_)); rotate_left; (focus (first | omega | (simp only [World.size_alloc, World.size_setCell, World.size_drew, World.heap_drewN]; first | done | omega)))))), ?_⟩
        (refine Box.of_f ?_; repeat (first | ((with_reducible refine BoxF.done (by with_reducible assumption) ?_); rfl) | ((with_reducible refine BoxF.new ?_ ?_); (focus (first | omega | (simp only [World.size_alloc, World.size_setCell, World.size_drew, World.heap_drewN]; first | done | omega))); rfl) | ((with_reducible refine BoxF.alloc ?_ ?_); (focus (first | omega | (simp only [World.size_alloc, World.size_setCell, World.size_drew, World.heap_drewN]; first | done | omega)))) | (with_reducible refine BoxF.set ?_) | ((with_reducible refine BoxF.far ?_ ?_); ((try simp only []); omega)) | (with_reducible refine BoxF.drewN ?_) | (with_reducible refine BoxF.drew ?_) | ((with_reducible refine BoxF.below (by with_reducible assumption) ?_ ?_); (focus (first | omega | (simp only [World.size_alloc, World.size_setCell, World.size_drew, World.heap_drewN]; first | done | omega))))))
      case round =>
        obtain ⟨k, hk, rfl, hup, hbl, bw⟩ := hrel
        obtain ⟨u1, u2, u3, u4⟩ := bw.two
        have hz := bw.lt
        by_cases hlt : k < x.bars.length
        · obtain ⟨b, off, lo, hi, rfl, hb, hx, d0, d1⟩ := rgsA (rgs_on hbs hbl hB) hlt
          have hbr : b < wr.heap.size := by omega
          rcases isHard_cases lo hi with g | g
          · have G := Lib.hid g
            clear g
            go_wp2_with (go_at_call 47; refine (refIsHard_any _ _ _).mono ?_; rintro e w2 ⟨rfl, hb2⟩; rw [G.out]; obtain ⟨_hr1, _hr2⟩ := below_reads hb2; have _hz := Below.size hb2; (try simp only [World.size_alloc, World.size_setCell, World.size_drew, World.heap_drewN] at _hz))
            go_roundw
            case rel =>
              refine ⟨k + 1, by omega, by go_num, hup.succ hx G.out, (by repeat (first | (with_reducible assumption) | (with_reducible exact Below.refl _ _) | ((with_reducible refine Below.alloc ?_ ?_ _); rotate_left; (focus (first | omega | (simp only [World.size_alloc, World.size_setCell, World.size_drew, World.heap_drewN]; first | done | omega)))) | ((with_reducible refine Below.setCell ?_ ?_ _); rotate_left; (focus (first | omega | (simp only [World.size_alloc, World.size_setCell, World.size_drew, World.heap_drewN]; first | done | omega)))) | (with_reducible refine below_drewN ?_ _) | (with_reducible refine Below.drew ?_) | ((with_reducible refine Below.trans ?_ (Below.mono (by assumption) ?_)); rotate_left; (focus (first | omega | (simp only [World.size_alloc, World.size_setCell, World.size_drew, World.heap_drewN]; first | done | omega)))))), ?_⟩
              (refine Box.of_f ?_; repeat (first | ((with_reducible refine BoxF.done (by with_reducible assumption) ?_); rfl) | ((with_reducible refine BoxF.new ?_ ?_); (focus (first | omega | (simp only [World.size_alloc, World.size_setCell, World.size_drew, World.heap_drewN]; first | done | omega))); rfl) | ((with_reducible refine BoxF.alloc ?_ ?_); (focus (first | omega | (simp only [World.size_alloc, World.size_setCell, World.size_drew, World.heap_drewN]; first | done | omega)))) | (with_reducible refine BoxF.set ?_) | ((with_reducible refine BoxF.far ?_ ?_); ((try simp only []); omega)) | (with_reducible refine BoxF.drewN ?_) | (with_reducible refine BoxF.drew ?_) | ((with_reducible refine BoxF.below (by with_reducible assumption) ?_ ?_); (focus (first | omega | (simp only [World.size_alloc, World.size_setCell, World.size_drew, World.heap_drewN]; first | done | omega))))))
            case measure => simp [intOf]; omega
          · have R : Hid (worksErr x = 2) := bad2.out (Upto.fail hx g)
            have G := Lib.hid g
            clear g
            go_wp2_with (go_at_call 47; refine (refIsHard_any _ _ _).mono ?_; rintro e w2 ⟨rfl, hb2⟩; rw [G.out]; obtain ⟨_hr1, _hr2⟩ := below_reads hb2; have _hz := Below.size hb2; (try simp only [World.size_alloc, World.size_setCell, World.size_drew, World.heap_drewN] at _hz))
            go_ret
            exact ⟨ret_int R.out.symm, (by repeat (first | (with_reducible assumption) | (with_reducible exact Below.refl _ _) | ((with_reducible refine Below.alloc ?_ ?_ _); rotate_left; (focus (first | omega | (simp only [World.size_alloc, World.size_setCell, World.size_drew, World.heap_drewN]; first | done | omega)))) | ((with_reducible refine Below.setCell ?_ ?_ _); rotate_left; (focus (first | omega | (simp only [World.size_alloc, World.size_setCell, World.size_drew, World.heap_drewN]; first | done | omega)))) | (with_reducible refine below_drewN ?_ _) | (with_reducible refine Below.drew ?_) | ((with_reducible refine Below.trans ?_ (Below.mono (by assumption) ?_)); rotate_left; (focus (first | omega | (simp only [World.size_alloc, World.size_setCell, World.size_drew, World.heap_drewN]; first | done | omega))))))⟩
        · have W : Hid (worksErr x = errs (errs wayErr) x.steps) := way.out (hup.done (by omega))
          clear hup
          go_wp2_with fail
          obtain ⟨wo, rfl⟩ : ∃ wo : World, wo = wr := ⟨_, rfl⟩
          go_loopw [5] (fun i wr => ∃ (k : Nat), k ≤ x.steps.length ∧ i = .int .i64 k ∧ Upto (zeroB (errs wayErr)) x.steps k ∧ Below w.heap.size w wr ∧ Box wr w.heap.size 25 #[.slice Ab x.bars.length cb, .slice As x.steps.length cs])
            (fun i _ => x.steps.length - (intOf i).toNat)
          case atStart =>
            refine ⟨0, by omega, rfl, Upto.zero _ _, (by repeat (first | (with_reducible assumption) | (with_reducible exact Below.refl _ _) | ((with_reducible refine Below.alloc ?_ ?_ _); rotate_left; (focus (first | omega | (simp only [World.size_alloc, World.size_setCell, World.size_drew, World.heap_drewN]; first | done | omega)))) | ((with_reducible refine Below.setCell ?_ ?_ _); rotate_left; (focus (first | omega | (simp only [World.size_alloc, World.size_setCell, World.size_drew, World.heap_drewN]; first | done | omega)))) | (with_reducible refine below_drewN ?_ _) | (with_reducible refine Below.drew ?_) | ((with_reducible refine Below.trans ?_ (Below.mono (by assumption) ?_)); rotate_left; (focus (first | omega | (simp only [World.size_alloc, World.size_setCell, World.size_drew, World.heap_drewN]; first | done | omega)))))), ?_⟩
            (refine Box.of_f ?_; repeat (first | ((with_reducible refine BoxF.done (by with_reducible assumption) ?_); rfl) | ((with_reducible refine BoxF.new ?_ ?_); (focus (first | omega | (simp only [World.size_alloc, World.size_setCell, World.size_drew, World.heap_drewN]; first | done | omega))); rfl) | ((with_reducible refine BoxF.alloc ?_ ?_); (focus (first | omega | (simp only [World.size_alloc, World.size_setCell, World.size_drew, World.heap_drewN]; first | done | omega)))) | (with_reducible refine BoxF.set ?_) | ((with_reducible refine BoxF.far ?_ ?_); ((try simp only []); omega)) | (with_reducible refine BoxF.drewN ?_) | (with_reducible refine BoxF.drew ?_) | ((with_reducible refine BoxF.below (by with_reducible assumption) ?_ ?_); (focus (first | omega | (simp only [World.size_alloc, World.size_setCell, World.size_drew, World.heap_drewN]; first | done | omega))))))
          case round =>
            obtain ⟨k, hk, rfl, hup, hbl, bw⟩ := hrel
            obtain ⟨u1, u2, u3, u4⟩ := bw.two
            have hz := bw.lt
            by_cases hlt : k < x.steps.length
            · obtain ⟨b, off, A', c', ws, rfl, hb, hx, d0, l1, l2, hws⟩ := stepsA hs hlt
              go_wp2_with fail
              obtain ⟨wp, rfl⟩ : ∃ wp : World, wp = wr := ⟨_, rfl⟩
              go_loopw [6] (fun i wr => ∃ (m : Nat), m ≤ ws.length ∧ i = .int .i64 m ∧ Upto (zeroB wayErr) ws m ∧ Below w.heap.size w wr ∧ Box wr w.heap.size 25 #[.slice Ab x.bars.length cb, .slice (some ⟨b, off, none⟩) x.steps.length cs])
                (fun i _ => ws.length - (intOf i).toNat)
              case atStart =>
                refine ⟨0, by omega, rfl, Upto.zero _ _, (by repeat (first | (with_reducible assumption) | (with_reducible exact Below.refl _ _) | ((with_reducible refine Below.alloc ?_ ?_ _); rotate_left; (focus (first | omega | (simp only [World.size_alloc, World.size_setCell, World.size_drew, World.heap_drewN]; first | done | omega)))) | ((with_reducible refine Below.setCell ?_ ?_ _); rotate_left; (focus (first | omega | (simp only [World.size_alloc, World.size_setCell, World.size_drew, World.heap_drewN]; first | done | omega)))) | (with_reducible refine below_drewN ?_ _) | (with_reducible refine Below.drew ?_) | ((with_reducible refine Below.trans ?_ (Below.mono (by assumption) ?_)); rotate_left; (focus (first | omega | (simp only [World.size_alloc, World.size_setCell, World.size_drew, World.heap_drewN]; first | done | omega)))))), ?_⟩
                (refine Box.of_f ?_; repeat (first | ((with_reducible refine BoxF.done (by with_reducible assumption) ?_); rfl) | ((with_reducible refine BoxF.new ?_ ?_); (focus (first | omega | (simp only [World.size_alloc, World.size_setCell, World.size_drew, World.heap_drewN]; first | done | omega))); rfl) | ((with_reducible refine BoxF.alloc ?_ ?_); (focus (first | omega | (simp only [World.size_alloc, World.size_setCell, World.size_drew, World.heap_drewN]; first | done | omega)))) | (with_reducible refine BoxF.set ?_) | ((with_reducible refine BoxF.far ?_ ?_); ((try simp only []); omega)) | (with_reducible refine BoxF.drewN ?_) | (with_reducible refine BoxF.drew ?_) | ((with_reducible refine BoxF.below (by with_reducible assumption) ?_ ?_); (focus (first | omega | (simp only [World.size_alloc, World.size_setCell, World.size_drew, World.heap_drewN]; first | done | omega))))))
              case round =>
                obtain ⟨m, hm', rfl, hup2, hbl2, bw2⟩ := hrel
                obtain ⟨u1, u2, u3, u4⟩ := bw2.two
                have hz2 := bw2.lt
                have d1 := (hbl2.cell (p := ⟨b, off + k, none⟩) (by simp only []; omega)).trans d0
                have hbr : b < wr.heap.size := by omega
                by_cases hlt2 : m < ws.length
                · obtain ⟨b2, off2, A2, c2, ks, rfl, hb2, hx2, e0, l3, l4, hks⟩ := waysA hws hlt2
                  have e1 := (hbl2.cell (p := ⟨b2, off2 + m, none⟩) (by simp only []; omega)).trans e0
                  have hbr2 : b2 < wr.heap.size := by omega
                  by_cases g : wayErr ks = 0
                  · have G := Lib.hid g
                    clear g
                    go_wp2_with (go_at_call 20; refine (refCheckWay_any _ _ ks B _ (kinks_on hks (n := w.heap.size) (by repeat (first | (with_reducible assumption) | (with_reducible exact Below.refl _ _) | ((with_reducible refine Below.alloc ?_ ?_ _); rotate_left; (focus (first | omega | (simp only [World.size_alloc, World.size_setCell, World.size_drew, World.heap_drewN]; first | done | omega)))) | ((with_reducible refine Below.setCell ?_ ?_ _); rotate_left; (focus (first | omega | (simp only [World.size_alloc, World.size_setCell, World.size_drew, World.heap_drewN]; first | done | omega)))) | (with_reducible refine below_drewN ?_ _) | (with_reducible refine Below.drew ?_) | ((with_reducible refine Below.trans ?_ (Below.mono (by assumption) ?_)); rotate_left; (focus (first | omega | (simp only [World.size_alloc, World.size_setCell, World.size_drew, World.heap_drewN]; first | done | omega)))))) hB) l3 l4 (by (focus (first | omega | (simp only [World.size_alloc, World.size_setCell, World.size_drew, World.heap_drewN]; first | done | omega))))).mono ?_; rintro e w2 ⟨rfl, hb2⟩; rw [G.out]; obtain ⟨_hr1, _hr2⟩ := below_reads hb2; have _hz := Below.size hb2; (try simp only [World.size_alloc, World.size_setCell, World.size_drew, World.heap_drewN] at _hz))
                    go_roundw
                    case rel =>
                      refine ⟨m + 1, by omega, by go_num, hup2.succ hx2 (by simp [zeroB, G.out]), (by repeat (first | (with_reducible assumption) | (with_reducible exact Below.refl _ _) | ((with_reducible refine Below.alloc ?_ ?_ _); rotate_left; (focus (first | omega | (simp only [World.size_alloc, World.size_setCell, World.size_drew, World.heap_drewN]; first | done | omega)))) | ((with_reducible refine Below.setCell ?_ ?_ _); rotate_left; (focus (first | omega | (simp only [World.size_alloc, World.size_setCell, World.size_drew, World.heap_drewN]; first | done | omega)))) | (with_reducible refine below_drewN ?_ _) | (with_reducible refine Below.drew ?_) | ((with_reducible refine Below.trans ?_ (Below.mono (by assumption) ?_)); rotate_left; (focus (first | omega | (simp only [World.size_alloc, World.size_setCell, World.size_drew, World.heap_drewN]; first | done | omega)))))), ?_⟩
                      (refine Box.of_f ?_; repeat (first | ((with_reducible refine BoxF.done (by with_reducible assumption) ?_); rfl) | ((with_reducible refine BoxF.new ?_ ?_); (focus (first | omega | (simp only [World.size_alloc, World.size_setCell, World.size_drew, World.heap_drewN]; first | done | omega))); rfl) | ((with_reducible refine BoxF.alloc ?_ ?_); (focus (first | omega | (simp only [World.size_alloc, World.size_setCell, World.size_drew, World.heap_drewN]; first | done | omega)))) | (with_reducible refine BoxF.set ?_) | ((with_reducible refine BoxF.far ?_ ?_); ((try simp only []); omega)) | (with_reducible refine BoxF.drewN ?_) | (with_reducible refine BoxF.drew ?_) | ((with_reducible refine BoxF.below (by with_reducible assumption) ?_ ?_); (focus (first | omega | (simp only [World.size_alloc, World.size_setCell, World.size_drew, World.heap_drewN]; first | done | omega))))))
                    case measure => simp [intOf]; omega
                  · have ne : errs wayErr ws = wayErr ks := errs_at hup2 hx2 g
                    have R : Hid (worksErr x = wayErr ks) := W.out.trans ((errs_at hup hx (by rw [ne]; exact g)).trans ne)
                    have g' : (wayErr ks != 0) = true := by simp [g]
                    clear ne g
                    go_wp2_with fail
                    refine (refCheckWay_any _ _ ks B _ (kinks_on hks (n := w.heap.size) (by repeat (first | (with_reducible assumption) | (with_reducible exact Below.refl _ _) | ((with_reducible refine Below.alloc ?_ ?_ _); rotate_left; (focus (first | omega | (simp only [World.size_alloc, World.size_setCell, World.size_drew, World.heap_drewN]; first | done | omega)))) | ((with_reducible refine Below.setCell ?_ ?_ _); rotate_left; (focus (first | omega | (simp only [World.size_alloc, World.size_setCell, World.size_drew, World.heap_drewN]; first | done | omega)))) | (with_reducible refine below_drewN ?_ _) | (with_reducible refine Below.drew ?_) | ((with_reducible refine Below.trans ?_ (Below.mono (by assumption) ?_)); rotate_left; (focus (first | omega | (simp only [World.size_alloc, World.size_setCell, World.size_drew, World.heap_drewN]; first | done | omega)))))) hB) l3 l4 (by (focus (first | omega | (simp only [World.size_alloc, World.size_setCell, World.size_drew, World.heap_drewN]; first | done | omega))))).mono ?_
                    rintro e w2 ⟨rfl, hb2⟩
                    obtain ⟨_hr1, _hr2⟩ := below_reads hb2; have _hz := Below.size hb2; (try simp only [World.size_alloc, World.size_setCell, World.size_drew, World.heap_drewN] at _hz)
                    have _q7 : w.heap.size < w2.heap.size := by omega
                    have _q8 : b < w2.heap.size := by omega
                    have _q9 : b2 < w2.heap.size := by omega
                    go_wp2_with fail
                    refine (refCheckWay_any _ _ ks B _ (kinks_on hks (n := w.heap.size) (by repeat (first | (with_reducible assumption) | (with_reducible exact Below.refl _ _) | ((with_reducible refine Below.alloc ?_ ?_ _); rotate_left; (focus (first | omega | (simp only [World.size_alloc, World.size_setCell, World.size_drew, World.heap_drewN]; first | done | omega)))) | ((with_reducible refine Below.setCell ?_ ?_ _); rotate_left; (focus (first | omega | (simp only [World.size_alloc, World.size_setCell, World.size_drew, World.heap_drewN]; first | done | omega)))) | (with_reducible refine below_drewN ?_ _) | (with_reducible refine Below.drew ?_) | ((with_reducible refine Below.trans ?_ (Below.mono (by assumption) ?_)); rotate_left; (focus (first | omega | (simp only [World.size_alloc, World.size_setCell, World.size_drew, World.heap_drewN]; first | done | omega)))))) hB) l3 l4 (by (focus (first | omega | (simp only [World.size_alloc, World.size_setCell, World.size_drew, World.heap_drewN]; first | done | omega))))).mono ?_
                    rintro e w3 ⟨rfl, hb3⟩
                    obtain ⟨_hr1, _hr2⟩ := below_reads hb3; have _hz := Below.size hb3; (try simp only [World.size_alloc, World.size_setCell, World.size_drew, World.heap_drewN] at _hz)
                    go_wp2_with fail
                    go_ret
                    exact ⟨ret_int R.out.symm, (by repeat (first | (with_reducible assumption) | (with_reducible exact Below.refl _ _) | ((with_reducible refine Below.alloc ?_ ?_ _); rotate_left; (focus (first | omega | (simp only [World.size_alloc, World.size_setCell, World.size_drew, World.heap_drewN]; first | done | omega)))) | ((with_reducible refine Below.setCell ?_ ?_ _); rotate_left; (focus (first | omega | (simp only [World.size_alloc, World.size_setCell, World.size_drew, World.heap_drewN]; first | done | omega)))) | (with_reducible refine below_drewN ?_ _) | (with_reducible refine Below.drew ?_) | ((with_reducible refine Below.trans ?_ (Below.mono (by assumption) ?_)); rotate_left; (focus (first | omega | (simp only [World.size_alloc, World.size_setCell, World.size_drew, World.heap_drewN]; first | done | omega))))))⟩
                · have ok : Hid (zeroB (errs wayErr) ws = true) := by simp only [Hid, zeroB, decide_eq_true_eq]; exact errs_zero.2 (hup2.done (by omega))
                  go_wp2_with fail
                  go_roundw
                  case rel =>
                    refine ⟨k + 1, by omega, by go_num, hup.succ hx ok.out, (by repeat (first | (with_reducible assumption) | (with_reducible exact Below.refl _ _) | ((with_reducible refine Below.alloc ?_ ?_ _); rotate_left; (focus (first | omega | (simp only [World.size_alloc, World.size_setCell, World.size_drew, World.heap_drewN]; first | done | omega)))) | ((with_reducible refine Below.setCell ?_ ?_ _); rotate_left; (focus (first | omega | (simp only [World.size_alloc, World.size_setCell, World.size_drew, World.heap_drewN]; first | done | omega)))) | (with_reducible refine below_drewN ?_ _) | (with_reducible refine Below.drew ?_) | ((with_reducible refine Below.trans ?_ (Below.mono (by assumption) ?_)); rotate_left; (focus (first | omega | (simp only [World.size_alloc, World.size_setCell, World.size_drew, World.heap_drewN]; first | done | omega)))))), ?_⟩
                    (refine Box.of_f ?_; repeat (first | ((with_reducible refine BoxF.done (by with_reducible assumption) ?_); rfl) | ((with_reducible refine BoxF.new ?_ ?_); (focus (first | omega | (simp only [World.size_alloc, World.size_setCell, World.size_drew, World.heap_drewN]; first | done | omega))); rfl) | ((with_reducible refine BoxF.alloc ?_ ?_); (focus (first | omega | (simp only [World.size_alloc, World.size_setCell, World.size_drew, World.heap_drewN]; first | done | omega)))) | (with_reducible refine BoxF.set ?_) | ((with_reducible refine BoxF.far ?_ ?_); ((try simp only []); omega)) | (with_reducible refine BoxF.drewN ?_) | (with_reducible refine BoxF.drew ?_) | ((with_reducible refine BoxF.below (by with_reducible assumption) ?_ ?_); (focus (first | omega | (simp only [World.size_alloc, World.size_setCell, World.size_drew, World.heap_drewN]; first | done | omega))))))
                  case measure => simp [intOf]; omega
            · have R : Hid (worksErr x = 0) := W.out.trans (errs_zero.2 (hup.done (by omega)))
              go_wp2_with fail
              go_ret
              exact ⟨ret_int R.out.symm, (by repeat (first | (with_reducible assumption) | (with_reducible exact Below.refl _ _) | ((with_reducible refine Below.alloc ?_ ?_ _); rotate_left; (focus (first | omega | (simp only [World.size_alloc, World.size_setCell, World.size_drew, World.heap_drewN]; first | done | omega)))) | ((with_reducible refine Below.setCell ?_ ?_ _); rotate_left; (focus (first | omega | (simp only [World.size_alloc, World.size_setCell, World.size_drew, World.heap_drewN]; first | done | omega)))) | (with_reducible refine below_drewN ?_ _) | (with_reducible refine Below.drew ?_) | ((with_reducible refine Below.trans ?_ (Below.mono (by assumption) ?_)); rotate_left; (focus (first | omega | (simp only [World.size_alloc, World.size_setCell, World.size_drew, World.heap_drewN]; first | done | omega))))))⟩

set_option maxHeartbeats 400000 in
theorem refAfterX_any (A : Option Addr) (c : Nat) (ks : List Kink) (hard : Int) (B : Nat) (w : World) (h : KinksA w B A ks) (hc : ks.length ≤ c) (hm : c ≤ 9223372036854775807) (hB : B ≤ w.heap.size) :
    Calls Try.prog 18 #[.agg #[.slice A ks.length c], .int .i64 hard] w fun e w' => e = .returned (aftV ks hard) ∧ Below w.heap.size w w' := by
  by_cases g1 : wayErr ks = 0
  · have n0 := pos_of_wayErr g1
    have H1 := Lib.hid g1
    by_cases q1 : hard < 0
    · have E : Hid (aftV ks hard = .tuple #[.agg #[.int .i64 0, .int .i64 0], .int .i64 2]) := by simp [Hid, aftV, g1, hardB_f (.inl q1)]
      clear g1
      go_enter Try.func18, Try.ntmps18
      go_wp2_with (go_at_call 20; refine (refCheckWay_any _ _ ks B _ (kinks_on h (n := w.heap.size) (by repeat (first | (with_reducible assumption) | (with_reducible exact Below.refl _ _) | ((with_reducible refine Below.alloc ?_ ?_ _); rotate_left; (focus (first | omega | (simp only [World.size_alloc, World.size_setCell, World.size_drew, World.heap_drewN]; first | done | omega)))) | ((with_reducible refine Below.setCell ?_ ?_ _); rotate_left; (focus (first | omega | (simp only [World.size_alloc, World.size_setCell, World.size_drew, World.heap_drewN]; first | done | omega)))) | (with_reducible refine below_drewN ?_ _) | (with_reducible refine Below.drew ?_) | ((with_reducible refine Below.trans ?_ (Below.mono (by assumption) ?_)); rotate_left; (focus (first | omega | (simp only [World.size_alloc, World.size_setCell, World.size_drew, World.heap_drewN]; first | done | omega)))))) hB) hc hm (by (focus (first | omega | (simp only [World.size_alloc, World.size_setCell, World.size_drew, World.heap_drewN]; first | done | omega))))).mono ?_; rintro e w1 ⟨rfl, hb1⟩; rw [H1.out]; obtain ⟨_hr1, _hr2⟩ := below_reads hb1; have _hz := Below.size hb1; (try simp only [World.size_alloc, World.size_setCell, World.size_drew, World.heap_drewN] at _hz); obtain ⟨_hr3, _hr4⟩ := below_reads (show Below w.heap.size w w1 from (by repeat (first | (with_reducible assumption) | (with_reducible exact Below.refl _ _) | ((with_reducible refine Below.alloc ?_ ?_ _); rotate_left; (focus (first | omega | (simp only [World.size_alloc, World.size_setCell, World.size_drew, World.heap_drewN]; first | done | omega)))) | ((with_reducible refine Below.setCell ?_ ?_ _); rotate_left; (focus (first | omega | (simp only [World.size_alloc, World.size_setCell, World.size_drew, World.heap_drewN]; first | done | omega)))) | (with_reducible refine below_drewN ?_ _) | (with_reducible refine Below.drew ?_) | ((with_reducible refine Below.trans ?_ (Below.mono (by assumption) ?_)); rotate_left; (focus (first | omega | (simp only [World.size_alloc, World.size_setCell, World.size_drew, World.heap_drewN]; first | done | omega))))))); have _q0 : w.heap.size < w1.heap.size := (by omega); have _q1 : w.heap.size + 1 < w1.heap.size := (by omega))
      refine bodyPost_ret (v := .tuple #[.agg #[.int .i64 0, .int .i64 0], .int .i64 2]) (by simp [results, Try.results18, go_sem, *]) rfl ?_
      rw [E.out]
      exact ⟨rfl, (by repeat (first | (with_reducible assumption) | (with_reducible exact Below.refl _ _) | ((with_reducible refine Below.alloc ?_ ?_ _); rotate_left; (focus (first | omega | (simp only [World.size_alloc, World.size_setCell, World.size_drew, World.heap_drewN]; first | done | omega)))) | ((with_reducible refine Below.setCell ?_ ?_ _); rotate_left; (focus (first | omega | (simp only [World.size_alloc, World.size_setCell, World.size_drew, World.heap_drewN]; first | done | omega)))) | (with_reducible refine below_drewN ?_ _) | (with_reducible refine Below.drew ?_) | ((with_reducible refine Below.trans ?_ (Below.mono (by assumption) ?_)); rotate_left; (focus (first | omega | (simp only [World.size_alloc, World.size_setCell, World.size_drew, World.heap_drewN]; first | done | omega))))))⟩
    by_cases q2 : 1000 < hard
    · have E : Hid (aftV ks hard = .tuple #[.agg #[.int .i64 0, .int .i64 0], .int .i64 2]) := by simp [Hid, aftV, g1, hardB_f (.inr q2)]
      clear g1
      go_enter Try.func18, Try.ntmps18
      go_wp2_with (go_at_call 20; refine (refCheckWay_any _ _ ks B _ (kinks_on h (n := w.heap.size) (by repeat (first | (with_reducible assumption) | (with_reducible exact Below.refl _ _) | ((with_reducible refine Below.alloc ?_ ?_ _); rotate_left; (focus (first | omega | (simp only [World.size_alloc, World.size_setCell, World.size_drew, World.heap_drewN]; first | done | omega)))) | ((with_reducible refine Below.setCell ?_ ?_ _); rotate_left; (focus (first | omega | (simp only [World.size_alloc, World.size_setCell, World.size_drew, World.heap_drewN]; first | done | omega)))) | (with_reducible refine below_drewN ?_ _) | (with_reducible refine Below.drew ?_) | ((with_reducible refine Below.trans ?_ (Below.mono (by assumption) ?_)); rotate_left; (focus (first | omega | (simp only [World.size_alloc, World.size_setCell, World.size_drew, World.heap_drewN]; first | done | omega)))))) hB) hc hm (by (focus (first | omega | (simp only [World.size_alloc, World.size_setCell, World.size_drew, World.heap_drewN]; first | done | omega))))).mono ?_; rintro e w1 ⟨rfl, hb1⟩; rw [H1.out]; obtain ⟨_hr1, _hr2⟩ := below_reads hb1; have _hz := Below.size hb1; (try simp only [World.size_alloc, World.size_setCell, World.size_drew, World.heap_drewN] at _hz); obtain ⟨_hr3, _hr4⟩ := below_reads (show Below w.heap.size w w1 from (by repeat (first | (with_reducible assumption) | (with_reducible exact Below.refl _ _) | ((with_reducible refine Below.alloc ?_ ?_ _); rotate_left; (focus (first | omega | (simp only [World.size_alloc, World.size_setCell, World.size_drew, World.heap_drewN]; first | done | omega)))) | ((with_reducible refine Below.setCell ?_ ?_ _); rotate_left; (focus (first | omega | (simp only [World.size_alloc, World.size_setCell, World.size_drew, World.heap_drewN]; first | done | omega)))) | (with_reducible refine below_drewN ?_ _) | (with_reducible refine Below.drew ?_) | ((with_reducible refine Below.trans ?_ (Below.mono (by assumption) ?_)); rotate_left; (focus (first | omega | (simp only [World.size_alloc, World.size_setCell, World.size_drew, World.heap_drewN]; first | done | omega))))))); have _q0 : w.heap.size < w1.heap.size := (by omega); have _q1 : w.heap.size + 1 < w1.heap.size := (by omega))
      refine bodyPost_ret (v := .tuple #[.agg #[.int .i64 0, .int .i64 0], .int .i64 2]) (by simp [results, Try.results18, go_sem, *]) rfl ?_
      rw [E.out]
      exact ⟨rfl, (by repeat (first | (with_reducible assumption) | (with_reducible exact Below.refl _ _) | ((with_reducible refine Below.alloc ?_ ?_ _); rotate_left; (focus (first | omega | (simp only [World.size_alloc, World.size_setCell, World.size_drew, World.heap_drewN]; first | done | omega)))) | ((with_reducible refine Below.setCell ?_ ?_ _); rotate_left; (focus (first | omega | (simp only [World.size_alloc, World.size_setCell, World.size_drew, World.heap_drewN]; first | done | omega)))) | (with_reducible refine below_drewN ?_ _) | (with_reducible refine Below.drew ?_) | ((with_reducible refine Below.trans ?_ (Below.mono (by assumption) ?_)); rotate_left; (focus (first | omega | (simp only [World.size_alloc, World.size_setCell, World.size_drew, World.heap_drewN]; first | done | omega))))))⟩
    · have E : Hid (aftV ks hard = .tuple #[.agg #[.int .i64 (aft ks hard).1, .int .i64 (aft ks hard).2], .int .i64 0]) := by simp [Hid, aftV, g1, hardB_t (show 0 ≤ hard by omega) (show hard ≤ 1000 by omega)]
      clear g1
      go_enter Try.func18, Try.ntmps18
      go_wp2_with (first
        | (go_at_call 20; refine (refCheckWay_any _ _ ks B _ (kinks_on h (n := w.heap.size) (by repeat (first | (with_reducible assumption) | (with_reducible exact Below.refl _ _) | ((with_reducible refine Below.alloc ?_ ?_ _); rotate_left; (focus (first | omega | (simp only [World.size_alloc, World.size_setCell, World.size_drew, World.heap_drewN]; first | done | omega)))) | ((with_reducible refine Below.setCell ?_ ?_ _); rotate_left; (focus (first | omega | (simp only [World.size_alloc, World.size_setCell, World.size_drew, World.heap_drewN]; first | done | omega)))) | (with_reducible refine below_drewN ?_ _) | (with_reducible refine Below.drew ?_) | ((with_reducible refine Below.trans ?_ (Below.mono (by assumption) ?_)); rotate_left; (focus (first | omega | (simp only [World.size_alloc, World.size_setCell, World.size_drew, World.heap_drewN]; first | done | omega)))))) hB) hc hm (by (focus (first | omega | (simp only [World.size_alloc, World.size_setCell, World.size_drew, World.heap_drewN]; first | done | omega))))).mono ?_; rintro e w1 ⟨rfl, hb1⟩; rw [H1.out]; obtain ⟨_hr1, _hr2⟩ := below_reads hb1; have _hz := Below.size hb1; (try simp only [World.size_alloc, World.size_setCell, World.size_drew, World.heap_drewN] at _hz); obtain ⟨_hr3, _hr4⟩ := below_reads (show Below w.heap.size w w1 from (by repeat (first | (with_reducible assumption) | (with_reducible exact Below.refl _ _) | ((with_reducible refine Below.alloc ?_ ?_ _); rotate_left; (focus (first | omega | (simp only [World.size_alloc, World.size_setCell, World.size_drew, World.heap_drewN]; first | done | omega)))) | ((with_reducible refine Below.setCell ?_ ?_ _); rotate_left; (focus (first | omega | (simp only [World.size_alloc, World.size_setCell, World.size_drew, World.heap_drewN]; first | done | omega)))) | (with_reducible refine below_drewN ?_ _) | (with_reducible refine Below.drew ?_) | ((with_reducible refine Below.trans ?_ (Below.mono (by assumption) ?_)); rotate_left; (focus (first | omega | (simp only [World.size_alloc, World.size_setCell, World.size_drew, World.heap_drewN]; first | done | omega))))))); have _q0 : w.heap.size < w1.heap.size := (by omega); have _q1 : w.heap.size + 1 < w1.heap.size := (by omega))
        | (go_at_call 55; refine (refAfter_any _ _ ks hard B _ (kinks_on h (n := w.heap.size) (by repeat (first | (with_reducible assumption) | (with_reducible exact Below.refl _ _) | ((with_reducible refine Below.alloc ?_ ?_ _); rotate_left; (focus (first | omega | (simp only [World.size_alloc, World.size_setCell, World.size_drew, World.heap_drewN]; first | done | omega)))) | ((with_reducible refine Below.setCell ?_ ?_ _); rotate_left; (focus (first | omega | (simp only [World.size_alloc, World.size_setCell, World.size_drew, World.heap_drewN]; first | done | omega)))) | (with_reducible refine below_drewN ?_ _) | (with_reducible refine Below.drew ?_) | ((with_reducible refine Below.trans ?_ (Below.mono (by assumption) ?_)); rotate_left; (focus (first | omega | (simp only [World.size_alloc, World.size_setCell, World.size_drew, World.heap_drewN]; first | done | omega)))))) hB) hc hm (by (focus (first | omega | (simp only [World.size_alloc, World.size_setCell, World.size_drew, World.heap_drewN]; first | done | omega)))) n0).mono ?_; rintro e w2 ⟨rfl, hb2⟩; obtain ⟨_hr1, _hr2⟩ := below_reads hb2; have _hz := Below.size hb2; (try simp only [World.size_alloc, World.size_setCell, World.size_drew, World.heap_drewN] at _hz); obtain ⟨_hr3, _hr4⟩ := below_reads (show Below w.heap.size w w2 from (by repeat (first | (with_reducible assumption) | (with_reducible exact Below.refl _ _) | ((with_reducible refine Below.alloc ?_ ?_ _); rotate_left; (focus (first | omega | (simp only [World.size_alloc, World.size_setCell, World.size_drew, World.heap_drewN]; first | done | omega)))) | ((with_reducible refine Below.setCell ?_ ?_ _); rotate_left; (focus (first | omega | (simp only [World.size_alloc, World.size_setCell, World.size_drew, World.heap_drewN]; first | done | omega)))) | (with_reducible refine below_drewN ?_ _) | (with_reducible refine Below.drew ?_) | ((with_reducible refine Below.trans ?_ (Below.mono (by assumption) ?_)); rotate_left; (focus (first | omega | (simp only [World.size_alloc, World.size_setCell, World.size_drew, World.heap_drewN]; first | done | omega))))))); have _q0 : w.heap.size < w2.heap.size := (by omega); have _q1 : w.heap.size + 1 < w2.heap.size := (by omega)))
      refine bodyPost_ret (v := .tuple #[.agg #[.int .i64 (aft ks hard).1, .int .i64 (aft ks hard).2], .int .i64 0]) (by simp [results, Try.results18, go_sem, *]) rfl ?_
      rw [E.out]
      exact ⟨rfl, (by repeat (first | (with_reducible assumption) | (with_reducible exact Below.refl _ _) | ((with_reducible refine Below.alloc ?_ ?_ _); rotate_left; (focus (first | omega | (simp only [World.size_alloc, World.size_setCell, World.size_drew, World.heap_drewN]; first | done | omega)))) | ((with_reducible refine Below.setCell ?_ ?_ _); rotate_left; (focus (first | omega | (simp only [World.size_alloc, World.size_setCell, World.size_drew, World.heap_drewN]; first | done | omega)))) | (with_reducible refine below_drewN ?_ _) | (with_reducible refine Below.drew ?_) | ((with_reducible refine Below.trans ?_ (Below.mono (by assumption) ?_)); rotate_left; (focus (first | omega | (simp only [World.size_alloc, World.size_setCell, World.size_drew, World.heap_drewN]; first | done | omega))))))⟩
  · have E : Hid (aftV ks hard = .tuple #[.agg #[.int .i64 0, .int .i64 0], .int .i64 (wayErr ks)]) := by simp [Hid, aftV, g1]
    have n1 : (wayErr ks != 0) = true := by simp [g1]
    clear g1
    go_enter Try.func18, Try.ntmps18
    go_wp2_with fail
    refine (refCheckWay_any _ _ ks B _ (kinks_on h (n := w.heap.size) (by repeat (first | (with_reducible assumption) | (with_reducible exact Below.refl _ _) | ((with_reducible refine Below.alloc ?_ ?_ _); rotate_left; (focus (first | omega | (simp only [World.size_alloc, World.size_setCell, World.size_drew, World.heap_drewN]; first | done | omega)))) | ((with_reducible refine Below.setCell ?_ ?_ _); rotate_left; (focus (first | omega | (simp only [World.size_alloc, World.size_setCell, World.size_drew, World.heap_drewN]; first | done | omega)))) | (with_reducible refine below_drewN ?_ _) | (with_reducible refine Below.drew ?_) | ((with_reducible refine Below.trans ?_ (Below.mono (by assumption) ?_)); rotate_left; (focus (first | omega | (simp only [World.size_alloc, World.size_setCell, World.size_drew, World.heap_drewN]; first | done | omega)))))) hB) hc hm (by (focus (first | omega | (simp only [World.size_alloc, World.size_setCell, World.size_drew, World.heap_drewN]; first | done | omega))))).mono ?_
    rintro e w1 ⟨rfl, hb1⟩
    obtain ⟨_hr1, _hr2⟩ := below_reads hb1; have _hz := Below.size hb1; (try simp only [World.size_alloc, World.size_setCell, World.size_drew, World.heap_drewN] at _hz); obtain ⟨_hr3, _hr4⟩ := below_reads (show Below w.heap.size w w1 from (by repeat (first | (with_reducible assumption) | (with_reducible exact Below.refl _ _) | ((with_reducible refine Below.alloc ?_ ?_ _); rotate_left; (focus (first | omega | (simp only [World.size_alloc, World.size_setCell, World.size_drew, World.heap_drewN]; first | done | omega)))) | ((with_reducible refine Below.setCell ?_ ?_ _); rotate_left; (focus (first | omega | (simp only [World.size_alloc, World.size_setCell, World.size_drew, World.heap_drewN]; first | done | omega)))) | (with_reducible refine below_drewN ?_ _) | (with_reducible refine Below.drew ?_) | ((with_reducible refine Below.trans ?_ (Below.mono (by assumption) ?_)); rotate_left; (focus (first | omega | (simp only [World.size_alloc, World.size_setCell, World.size_drew, World.heap_drewN]; first | done | omega))))))); have _q0 : w.heap.size < w1.heap.size := (by omega); have _q1 : w.heap.size + 1 < w1.heap.size := (by omega)
    go_wp2_with fail
    refine (refCheckWay_any _ _ ks B _ (kinks_on h (n := w.heap.size) (by repeat (first | (with_reducible assumption) | (with_reducible exact Below.refl _ _) | ((with_reducible refine Below.alloc ?_ ?_ _); rotate_left; (focus (first | omega | (simp only [World.size_alloc, World.size_setCell, World.size_drew, World.heap_drewN]; first | done | omega)))) | ((with_reducible refine Below.setCell ?_ ?_ _); rotate_left; (focus (first | omega | (simp only [World.size_alloc, World.size_setCell, World.size_drew, World.heap_drewN]; first | done | omega)))) | (with_reducible refine below_drewN ?_ _) | (with_reducible refine Below.drew ?_) | ((with_reducible refine Below.trans ?_ (Below.mono (by assumption) ?_)); rotate_left; (focus (first | omega | (simp only [World.size_alloc, World.size_setCell, World.size_drew, World.heap_drewN]; first | done | omega)))))) hB) hc hm (by (focus (first | omega | (simp only [World.size_alloc, World.size_setCell, World.size_drew, World.heap_drewN]; first | done | omega))))).mono ?_
    rintro e w2 ⟨rfl, hb2⟩
    obtain ⟨_hr1, _hr2⟩ := below_reads hb2; have _hz := Below.size hb2; (try simp only [World.size_alloc, World.size_setCell, World.size_drew, World.heap_drewN] at _hz); obtain ⟨_hr3, _hr4⟩ := below_reads (show Below w.heap.size w w2 from (by repeat (first | (with_reducible assumption) | (with_reducible exact Below.refl _ _) | ((with_reducible refine Below.alloc ?_ ?_ _); rotate_left; (focus (first | omega | (simp only [World.size_alloc, World.size_setCell, World.size_drew, World.heap_drewN]; first | done | omega)))) | ((with_reducible refine Below.setCell ?_ ?_ _); rotate_left; (focus (first | omega | (simp only [World.size_alloc, World.size_setCell, World.size_drew, World.heap_drewN]; first | done | omega)))) | (with_reducible refine below_drewN ?_ _) | (with_reducible refine Below.drew ?_) | ((with_reducible refine Below.trans ?_ (Below.mono (by assumption) ?_)); rotate_left; (focus (first | omega | (simp only [World.size_alloc, World.size_setCell, World.size_drew, World.heap_drewN]; first | done | omega))))))); have _q0 : w.heap.size < w2.heap.size := (by omega); have _q1 : w.heap.size + 1 < w2.heap.size := (by omega)
    go_wp2_with fail
    refine bodyPost_ret (v := .tuple #[.agg #[.int .i64 0, .int .i64 0], .int .i64 (wayErr ks)]) (by simp [results, Try.results18, go_sem, *]) rfl ?_
    rw [E.out]
    exact ⟨rfl, (by repeat (first | (with_reducible assumption) | (with_reducible exact Below.refl _ _) | ((with_reducible refine Below.alloc ?_ ?_ _); rotate_left; (focus (first | omega | (simp only [World.size_alloc, World.size_setCell, World.size_drew, World.heap_drewN]; first | done | omega)))) | ((with_reducible refine Below.setCell ?_ ?_ _); rotate_left; (focus (first | omega | (simp only [World.size_alloc, World.size_setCell, World.size_drew, World.heap_drewN]; first | done | omega)))) | (with_reducible refine below_drewN ?_ _) | (with_reducible refine Below.drew ?_) | ((with_reducible refine Below.trans ?_ (Below.mono (by assumption) ?_)); rotate_left; (focus (first | omega | (simp only [World.size_alloc, World.size_setCell, World.size_drew, World.heap_drewN]; first | done | omega))))))⟩
end Go.Proofs.Ytigpefjeelgfdaa

/-
  Walks of layer 1, eleventh part: the reference's recipes and histories.
-/
namespace Go.Proofs.Ytigpefjeelgfdaa
open Go.RowKit

set_option maxHeartbeats 1000000 in
theorem refIsRecipe_any (Ab As Ar : Option Addr) (cb cs cr : Nat) (x : Works) (bar : Int) (ways : List Int) (B : Nat) (w : World) (h : In w B Ab As Ar cb cs cr x ways) :
    Calls Try.prog 63 #[.agg #[.slice Ab x.bars.length cb, .slice As x.steps.length cs], .agg #[.int .i64 bar, .slice Ar ways.length cr]] w
      fun e w' => e = .returned (.int .i64 (recErr x bar ways)) ∧ Below w.heap.size w w' := by
  obtain ⟨hb, hs, hw, k1, k2, k3, k4, k5, k6, hB⟩ := h
  by_cases g1 : worksErr x = 0
  · have G1 := Lib.hid g1
    by_cases g2 : ways.length = x.steps.length
    · have g2' : ((ways.length : Int) != (x.steps.length : Int)) = false := by simp [g2]
      have G2 := Lib.hid g2
      by_cases g3 : bar < 0 ∨ (x.bars.length : Int) ≤ bar
      · have R : Hid (recErr x bar ways = 3) := recErr_bar g1 g2 g3
        clear g1 g2
        by_cases q1 : bar < 0
        · clear g3
          go_enter Try.func63, Try.ntmps63
          go_wp2_with (go_at_call 22; refine (refCheckWorks_any _ _ _ _ x B _ (rgs_on hb (n := w.heap.size) (by repeat (first | (with_reducible assumption) | (with_reducible exact Below.refl _ _) | ((with_reducible refine Below.alloc ?_ ?_ _); rotate_left; (focus (first | omega | (simp only [World.size_alloc, World.size_setCell, World.size_drew, World.heap_drewN]; first | done | omega)))) | ((with_reducible refine Below.setCell ?_ ?_ _); rotate_left; (focus (first | omega | (simp only [World.size_alloc, World.size_setCell, World.size_drew, World.heap_drewN]; first | done | omega)))) | (with_reducible refine below_drewN ?_ _) | (with_reducible refine Below.drew ?_) | ((with_reducible refine Below.trans ?_ (Below.mono (by assumption) ?_)); rotate_left; (focus (first | omega | (simp only [World.size_alloc, World.size_setCell, World.size_drew, World.heap_drewN]; first | done | omega)))))) hB) (steps_on hs (n := w.heap.size) (by repeat (first | (with_reducible assumption) | (with_reducible exact Below.refl _ _) | ((with_reducible refine Below.alloc ?_ ?_ _); rotate_left; (focus (first | omega | (simp only [World.size_alloc, World.size_setCell, World.size_drew, World.heap_drewN]; first | done | omega)))) | ((with_reducible refine Below.setCell ?_ ?_ _); rotate_left; (focus (first | omega | (simp only [World.size_alloc, World.size_setCell, World.size_drew, World.heap_drewN]; first | done | omega)))) | (with_reducible refine below_drewN ?_ _) | (with_reducible refine Below.drew ?_) | ((with_reducible refine Below.trans ?_ (Below.mono (by assumption) ?_)); rotate_left; (focus (first | omega | (simp only [World.size_alloc, World.size_setCell, World.size_drew, World.heap_drewN]; first | done | omega)))))) hB) k3 k4 k1 k2 (by (focus (first | omega | (simp only [World.size_alloc, World.size_setCell, World.size_drew, World.heap_drewN]; first | done | omega))))).mono ?_; rintro e w1 ⟨rfl, hb1⟩; rw [G1.out]; obtain ⟨_hr1, _hr2⟩ := below_reads hb1; have _hz := Below.size hb1; (try simp only [World.size_alloc, World.size_setCell, World.size_drew, World.heap_drewN] at _hz); obtain ⟨_hr3, _hr4⟩ := below_reads (show Below w.heap.size w w1 from (by repeat (first | (with_reducible assumption) | (with_reducible exact Below.refl _ _) | ((with_reducible refine Below.alloc ?_ ?_ _); rotate_left; (focus (first | omega | (simp only [World.size_alloc, World.size_setCell, World.size_drew, World.heap_drewN]; first | done | omega)))) | ((with_reducible refine Below.setCell ?_ ?_ _); rotate_left; (focus (first | omega | (simp only [World.size_alloc, World.size_setCell, World.size_drew, World.heap_drewN]; first | done | omega)))) | (with_reducible refine below_drewN ?_ _) | (with_reducible refine Below.drew ?_) | ((with_reducible refine Below.trans ?_ (Below.mono (by assumption) ?_)); rotate_left; (focus (first | omega | (simp only [World.size_alloc, World.size_setCell, World.size_drew, World.heap_drewN]; first | done | omega))))))); have _q0 : w.heap.size < w1.heap.size := (by omega); have _q1 : w.heap.size + 1 < w1.heap.size := (by omega))
          go_ret
          exact ⟨ret_int R.out.symm, (by repeat (first | (with_reducible assumption) | (with_reducible exact Below.refl _ _) | ((with_reducible refine Below.alloc ?_ ?_ _); rotate_left; (focus (first | omega | (simp only [World.size_alloc, World.size_setCell, World.size_drew, World.heap_drewN]; first | done | omega)))) | ((with_reducible refine Below.setCell ?_ ?_ _); rotate_left; (focus (first | omega | (simp only [World.size_alloc, World.size_setCell, World.size_drew, World.heap_drewN]; first | done | omega)))) | (with_reducible refine below_drewN ?_ _) | (with_reducible refine Below.drew ?_) | ((with_reducible refine Below.trans ?_ (Below.mono (by assumption) ?_)); rotate_left; (focus (first | omega | (simp only [World.size_alloc, World.size_setCell, World.size_drew, World.heap_drewN]; first | done | omega))))))⟩
        · have q2 : (x.bars.length : Int) ≤ bar := by omega
          clear g3
          go_enter Try.func63, Try.ntmps63
          go_wp2_with (go_at_call 22; refine (refCheckWorks_any _ _ _ _ x B _ (rgs_on hb (n := w.heap.size) (by repeat (first | (with_reducible assumption) | (with_reducible exact Below.refl _ _) | ((with_reducible refine Below.alloc ?_ ?_ _); rotate_left; (focus (first | omega | (simp only [World.size_alloc, World.size_setCell, World.size_drew, World.heap_drewN]; first | done | omega)))) | ((with_reducible refine Below.setCell ?_ ?_ _); rotate_left; (focus (first | omega | (simp only [World.size_alloc, World.size_setCell, World.size_drew, World.heap_drewN]; first | done | omega)))) | (with_reducible refine below_drewN ?_ _) | (with_reducible refine Below.drew ?_) | ((with_reducible refine Below.trans ?_ (Below.mono (by assumption) ?_)); rotate_left; (focus (first | omega | (simp only [World.size_alloc, World.size_setCell, World.size_drew, World.heap_drewN]; first | done | omega)))))) hB) (steps_on hs (n := w.heap.size) (by repeat (first | (with_reducible assumption) | (with_reducible exact Below.refl _ _) | ((with_reducible refine Below.alloc ?_ ?_ _); rotate_left; (focus (first | omega | (simp only [World.size_alloc, World.size_setCell, World.size_drew, World.heap_drewN]; first | done | omega)))) | ((with_reducible refine Below.setCell ?_ ?_ _); rotate_left; (focus (first | omega | (simp only [World.size_alloc, World.size_setCell, World.size_drew, World.heap_drewN]; first | done | omega)))) | (with_reducible refine below_drewN ?_ _) | (with_reducible refine Below.drew ?_) | ((with_reducible refine Below.trans ?_ (Below.mono (by assumption) ?_)); rotate_left; (focus (first | omega | (simp only [World.size_alloc, World.size_setCell, World.size_drew, World.heap_drewN]; first | done | omega)))))) hB) k3 k4 k1 k2 (by (focus (first | omega | (simp only [World.size_alloc, World.size_setCell, World.size_drew, World.heap_drewN]; first | done | omega))))).mono ?_; rintro e w1 ⟨rfl, hb1⟩; rw [G1.out]; obtain ⟨_hr1, _hr2⟩ := below_reads hb1; have _hz := Below.size hb1; (try simp only [World.size_alloc, World.size_setCell, World.size_drew, World.heap_drewN] at _hz); obtain ⟨_hr3, _hr4⟩ := below_reads (show Below w.heap.size w w1 from (by repeat (first | (with_reducible assumption) | (with_reducible exact Below.refl _ _) | ((with_reducible refine Below.alloc ?_ ?_ _); rotate_left; (focus (first | omega | (simp only [World.size_alloc, World.size_setCell, World.size_drew, World.heap_drewN]; first | done | omega)))) | ((with_reducible refine Below.setCell ?_ ?_ _); rotate_left; (focus (first | omega | (simp only [World.size_alloc, World.size_setCell, World.size_drew, World.heap_drewN]; first | done | omega)))) | (with_reducible refine below_drewN ?_ _) | (with_reducible refine Below.drew ?_) | ((with_reducible refine Below.trans ?_ (Below.mono (by assumption) ?_)); rotate_left; (focus (first | omega | (simp only [World.size_alloc, World.size_setCell, World.size_drew, World.heap_drewN]; first | done | omega))))))); have _q0 : w.heap.size < w1.heap.size := (by omega); have _q1 : w.heap.size + 1 < w1.heap.size := (by omega))
          go_ret
          exact ⟨ret_int R.out.symm, (by repeat (first | (with_reducible assumption) | (with_reducible exact Below.refl _ _) | ((with_reducible refine Below.alloc ?_ ?_ _); rotate_left; (focus (first | omega | (simp only [World.size_alloc, World.size_setCell, World.size_drew, World.heap_drewN]; first | done | omega)))) | ((with_reducible refine Below.setCell ?_ ?_ _); rotate_left; (focus (first | omega | (simp only [World.size_alloc, World.size_setCell, World.size_drew, World.heap_drewN]; first | done | omega)))) | (with_reducible refine below_drewN ?_ _) | (with_reducible refine Below.drew ?_) | ((with_reducible refine Below.trans ?_ (Below.mono (by assumption) ?_)); rotate_left; (focus (first | omega | (simp only [World.size_alloc, World.size_setCell, World.size_drew, World.heap_drewN]; first | done | omega))))))⟩
      · obtain ⟨q1, q2⟩ : ¬ bar < 0 ∧ ¬ (x.bars.length : Int) ≤ bar := by omega
        have bad : Hid (∀ k, k < ways.length → wayIn x.steps ways k = false → recErr x bar ways = 3) := fun k hk h4 => recErr_way g1 g2 g3 hk h4
        have fin : Hid (allN (wayIn x.steps ways) ways.length = true → recErr x bar ways = 0) := recErr_ok g1 g2 g3
        clear g1 g2 g3
        go_enter Try.func63, Try.ntmps63
        go_wp2_with (go_at_call 22; refine (refCheckWorks_any _ _ _ _ x B _ (rgs_on hb (n := w.heap.size) (by repeat (first | (with_reducible assumption) | (with_reducible exact Below.refl _ _) | ((with_reducible refine Below.alloc ?_ ?_ _); rotate_left; (focus (first | omega | (simp only [World.size_alloc, World.size_setCell, World.size_drew, World.heap_drewN]; first | done | omega)))) | ((with_reducible refine Below.setCell ?_ ?_ _); rotate_left; (focus (first | omega | (simp only [World.size_alloc, World.size_setCell, World.size_drew, World.heap_drewN]; first | done | omega)))) | (with_reducible refine below_drewN ?_ _) | (with_reducible refine Below.drew ?_) | ((with_reducible refine Below.trans ?_ (Below.mono (by assumption) ?_)); rotate_left; (focus (first | omega | (simp only [World.size_alloc, World.size_setCell, World.size_drew, World.heap_drewN]; first | done | omega)))))) hB) (steps_on hs (n := w.heap.size) (by repeat (first | (with_reducible assumption) | (with_reducible exact Below.refl _ _) | ((with_reducible refine Below.alloc ?_ ?_ _); rotate_left; (focus (first | omega | (simp only [World.size_alloc, World.size_setCell, World.size_drew, World.heap_drewN]; first | done | omega)))) | ((with_reducible refine Below.setCell ?_ ?_ _); rotate_left; (focus (first | omega | (simp only [World.size_alloc, World.size_setCell, World.size_drew, World.heap_drewN]; first | done | omega)))) | (with_reducible refine below_drewN ?_ _) | (with_reducible refine Below.drew ?_) | ((with_reducible refine Below.trans ?_ (Below.mono (by assumption) ?_)); rotate_left; (focus (first | omega | (simp only [World.size_alloc, World.size_setCell, World.size_drew, World.heap_drewN]; first | done | omega)))))) hB) k3 k4 k1 k2 (by (focus (first | omega | (simp only [World.size_alloc, World.size_setCell, World.size_drew, World.heap_drewN]; first | done | omega))))).mono ?_; rintro e w1 ⟨rfl, hb1⟩; rw [G1.out]; obtain ⟨_hr1, _hr2⟩ := below_reads hb1; have _hz := Below.size hb1; (try simp only [World.size_alloc, World.size_setCell, World.size_drew, World.heap_drewN] at _hz); obtain ⟨_hr3, _hr4⟩ := below_reads (show Below w.heap.size w w1 from (by repeat (first | (with_reducible assumption) | (with_reducible exact Below.refl _ _) | ((with_reducible refine Below.alloc ?_ ?_ _); rotate_left; (focus (first | omega | (simp only [World.size_alloc, World.size_setCell, World.size_drew, World.heap_drewN]; first | done | omega)))) | ((with_reducible refine Below.setCell ?_ ?_ _); rotate_left; (focus (first | omega | (simp only [World.size_alloc, World.size_setCell, World.size_drew, World.heap_drewN]; first | done | omega)))) | (with_reducible refine below_drewN ?_ _) | (with_reducible refine Below.drew ?_) | ((with_reducible refine Below.trans ?_ (Below.mono (by assumption) ?_)); rotate_left; (focus (first | omega | (simp only [World.size_alloc, World.size_setCell, World.size_drew, World.heap_drewN]; first | done | omega))))))); have _q0 : w.heap.size < w1.heap.size := (by omega); have _q1 : w.heap.size + 1 < w1.heap.size := (by omega))
        go_loopw [5] (fun i wr => ∃ (k : Nat), k ≤ ways.length ∧ i = .int .i64 k ∧ UptoN (wayIn x.steps ways) k ∧ Below w.heap.size w wr ∧ Box wr w.heap.size 25 #[.slice Ab x.bars.length cb, .slice As x.steps.length cs] ∧
            Box wr (w.heap.size + 1) 42 #[.int .i64 bar, .slice Ar ways.length cr])
          (fun i _ => ways.length - (intOf i).toNat)
        case atStart =>
          refine ⟨0, by omega, rfl, UptoN.zero _, (by repeat (first | (with_reducible assumption) | (with_reducible exact Below.refl _ _) | ((with_reducible refine Below.alloc ?_ ?_ _); rotate_left; (focus (first | omega | (simp only [World.size_alloc, World.size_setCell, World.size_drew, World.heap_drewN]; first | done | omega)))) | ((with_reducible refine Below.setCell ?_ ?_ _); rotate_left; (focus (first | omega | (simp only [World.size_alloc, World.size_setCell, World.size_drew, World.heap_drewN]; first | done | omega)))) | (with_reducible refine below_drewN ?_ _) | (with_reducible refine Below.drew ?_) | ((with_reducible refine Below.trans ?_ (Below.mono (by assumption) ?_)); rotate_left; (focus (first | omega | (simp only [World.size_alloc, World.size_setCell, World.size_drew, World.heap_drewN]; first | done | omega)))))), ?_, ?_⟩
          all_goals (refine Box.of_f ?_; repeat (first | ((with_reducible refine BoxF.done (by with_reducible assumption) ?_); rfl) | ((with_reducible refine BoxF.new ?_ ?_); (focus (first | omega | (simp only [World.size_alloc, World.size_setCell, World.size_drew, World.heap_drewN]; first | done | omega))); rfl) | ((with_reducible refine BoxF.alloc ?_ ?_); (focus (first | omega | (simp only [World.size_alloc, World.size_setCell, World.size_drew, World.heap_drewN]; first | done | omega)))) | (with_reducible refine BoxF.set ?_) | ((with_reducible refine BoxF.far ?_ ?_); ((try simp only []); omega)) | (with_reducible refine BoxF.drewN ?_) | (with_reducible refine BoxF.drew ?_) | ((with_reducible refine BoxF.below (by with_reducible assumption) ?_ ?_); (focus (first | omega | (simp only [World.size_alloc, World.size_setCell, World.size_drew, World.heap_drewN]; first | done | omega))))))
        case round =>
          obtain ⟨k, hk, rfl, hup, hbl, bw, br⟩ := hrel
          obtain ⟨u1, u2, u3, u4⟩ := bw.two
          obtain ⟨t1, t2, t3, t4⟩ := br.two
          have hz := bw.lt
          have hz2 := br.lt
          by_cases hlt : k < ways.length
          · obtain ⟨b2, o2, n, rfl, hb2, hx2, d2⟩ := intsA (ints_on hw hbl hB) hlt
            have hlt' : k < x.steps.length := by have := G2.out; omega
            obtain ⟨b1, o1, A1, c1, ws, rfl, hb1', hx1, d1, l1, l2, hws⟩ := stepsA (steps_on hs hbl hB) hlt'
            have hbr1 : b1 < wr.heap.size := by omega
            have hbr2 : b2 < wr.heap.size := by omega
            have s1 : (k : Int) < (ways.length : Int) := by omega
            have s2 : (k : Int) < (x.steps.length : Int) := by omega
            by_cases p : 0 ≤ n ∧ n < (ws.length : Int)
            · have ok : Hid (wayIn x.steps ways k = true) := by simp only [Hid, wayIn, intAt_of hx2, stepAt_of hx1, decide_eq_true_eq]; exact p
              obtain ⟨p1, p2⟩ := p
              have p1' : decide (n < 0) = false := by simpa using p1
              go_wp2_with fail
              go_quiet (fail)
              go_wp2_with fail
              go_roundw
              case rel =>
                refine ⟨k + 1, by omega, by go_num, hup.succ ok.out, (by repeat (first | (with_reducible assumption) | (with_reducible exact Below.refl _ _) | ((with_reducible refine Below.alloc ?_ ?_ _); rotate_left; (focus (first | omega | (simp only [World.size_alloc, World.size_setCell, World.size_drew, World.heap_drewN]; first | done | omega)))) | ((with_reducible refine Below.setCell ?_ ?_ _); rotate_left; (focus (first | omega | (simp only [World.size_alloc, World.size_setCell, World.size_drew, World.heap_drewN]; first | done | omega)))) | (with_reducible refine below_drewN ?_ _) | (with_reducible refine Below.drew ?_) | ((with_reducible refine Below.trans ?_ (Below.mono (by assumption) ?_)); rotate_left; (focus (first | omega | (simp only [World.size_alloc, World.size_setCell, World.size_drew, World.heap_drewN]; first | done | omega)))))), ?_, ?_⟩
                all_goals (refine Box.of_f ?_; repeat (first | ((with_reducible refine BoxF.done (by with_reducible assumption) ?_); rfl) | ((with_reducible refine BoxF.new ?_ ?_); (focus (first | omega | (simp only [World.size_alloc, World.size_setCell, World.size_drew, World.heap_drewN]; first | done | omega))); rfl) | ((with_reducible refine BoxF.alloc ?_ ?_); (focus (first | omega | (simp only [World.size_alloc, World.size_setCell, World.size_drew, World.heap_drewN]; first | done | omega)))) | (with_reducible refine BoxF.set ?_) | ((with_reducible refine BoxF.far ?_ ?_); ((try simp only []); omega)) | (with_reducible refine BoxF.drewN ?_) | (with_reducible refine BoxF.drew ?_) | ((with_reducible refine BoxF.below (by with_reducible assumption) ?_ ?_); (focus (first | omega | (simp only [World.size_alloc, World.size_setCell, World.size_drew, World.heap_drewN]; first | done | omega))))))
              case measure => simp [intOf]; omega
            · have R : Hid (recErr x bar ways = 3) := bad.out k hlt (by simp only [wayIn, intAt_of hx2, stepAt_of hx1, decide_eq_false_iff_not]; exact p)
              by_cases p1 : n < 0
              · clear p
                go_wp2_with fail
                go_quiet (fail)
                go_wp2_with fail
                go_ret
                exact ⟨ret_int R.out.symm, (by repeat (first | (with_reducible assumption) | (with_reducible exact Below.refl _ _) | ((with_reducible refine Below.alloc ?_ ?_ _); rotate_left; (focus (first | omega | (simp only [World.size_alloc, World.size_setCell, World.size_drew, World.heap_drewN]; first | done | omega)))) | ((with_reducible refine Below.setCell ?_ ?_ _); rotate_left; (focus (first | omega | (simp only [World.size_alloc, World.size_setCell, World.size_drew, World.heap_drewN]; first | done | omega)))) | (with_reducible refine below_drewN ?_ _) | (with_reducible refine Below.drew ?_) | ((with_reducible refine Below.trans ?_ (Below.mono (by assumption) ?_)); rotate_left; (focus (first | omega | (simp only [World.size_alloc, World.size_setCell, World.size_drew, World.heap_drewN]; first | done | omega))))))⟩
              · have p2 : (ws.length : Int) ≤ n := by omega
                have p1' : decide (n < 0) = false := by simpa using p1
                clear p
                go_wp2_with fail
                go_quiet (fail)
                go_wp2_with fail
                go_ret
                exact ⟨ret_int R.out.symm, (by repeat (first | (with_reducible assumption) | (with_reducible exact Below.refl _ _) | ((with_reducible refine Below.alloc ?_ ?_ _); rotate_left; (focus (first | omega | (simp only [World.size_alloc, World.size_setCell, World.size_drew, World.heap_drewN]; first | done | omega)))) | ((with_reducible refine Below.setCell ?_ ?_ _); rotate_left; (focus (first | omega | (simp only [World.size_alloc, World.size_setCell, World.size_drew, World.heap_drewN]; first | done | omega)))) | (with_reducible refine below_drewN ?_ _) | (with_reducible refine Below.drew ?_) | ((with_reducible refine Below.trans ?_ (Below.mono (by assumption) ?_)); rotate_left; (focus (first | omega | (simp only [World.size_alloc, World.size_setCell, World.size_drew, World.heap_drewN]; first | done | omega))))))⟩
          · have R : Hid (recErr x bar ways = 0) := fin.out (hup.done (by omega))
            go_wp2_with fail
            go_ret
            exact ⟨ret_int R.out.symm, (by repeat (first | (with_reducible assumption) | (with_reducible exact Below.refl _ _) | ((with_reducible refine Below.alloc ?_ ?_ _); rotate_left; (focus (first | omega | (simp only [World.size_alloc, World.size_setCell, World.size_drew, World.heap_drewN]; first | done | omega)))) | ((with_reducible refine Below.setCell ?_ ?_ _); rotate_left; (focus (first | omega | (simp only [World.size_alloc, World.size_setCell, World.size_drew, World.heap_drewN]; first | done | omega)))) | (with_reducible refine below_drewN ?_ _) | (with_reducible refine Below.drew ?_) | ((with_reducible refine Below.trans ?_ (Below.mono (by assumption) ?_)); rotate_left; (focus (first | omega | (simp only [World.size_alloc, World.size_setCell, World.size_drew, World.heap_drewN]; first | done | omega))))))⟩
    · have g2' : ((ways.length : Int) != (x.steps.length : Int)) = true := by simp; omega
      have R : Hid (recErr x bar ways = 15) := recErr_len g1 g2
      clear g1 g2
      go_enter Try.func63, Try.ntmps63
      go_wp2_with (go_at_call 22; refine (refCheckWorks_any _ _ _ _ x B _ (rgs_on hb (n := w.heap.size) (by repeat (first | (with_reducible assumption) | (with_reducible exact Below.refl _ _) | ((with_reducible refine Below.alloc ?_ ?_ _); rotate_left; (focus (first | omega | (simp only [World.size_alloc, World.size_setCell, World.size_drew, World.heap_drewN]; first | done | omega)))) | ((with_reducible refine Below.setCell ?_ ?_ _); rotate_left; (focus (first | omega | (simp only [World.size_alloc, World.size_setCell, World.size_drew, World.heap_drewN]; first | done | omega)))) | (with_reducible refine below_drewN ?_ _) | (with_reducible refine Below.drew ?_) | ((with_reducible refine Below.trans ?_ (Below.mono (by assumption) ?_)); rotate_left; (focus (first | omega | (simp only [World.size_alloc, World.size_setCell, World.size_drew, World.heap_drewN]; first | done | omega)))))) hB) (steps_on hs (n := w.heap.size) (by repeat (first | (with_reducible assumption) | (with_reducible exact Below.refl _ _) | ((with_reducible refine Below.alloc ?_ ?_ _); rotate_left; (focus (first | omega | (simp only [World.size_alloc, World.size_setCell, World.size_drew, World.heap_drewN]; first | done | omega)))) | ((with_reducible refine Below.setCell ?_ ?_ _); rotate_left; (focus (first | omega | (simp only [World.size_alloc, World.size_setCell, World.size_drew, World.heap_drewN]; first | done | omega)))) | (with_reducible refine below_drewN ?_ _) | (with_reducible refine Below.drew ?_) | ((with_reducible refine Below.trans ?_ (Below.mono (by assumption) ?_)); rotate_left; (focus (first | omega | (simp only [World.size_alloc, World.size_setCell, World.size_drew, World.heap_drewN]; first | done | omega)))))) hB) k3 k4 k1 k2 (by (focus (first | omega | (simp only [World.size_alloc, World.size_setCell, World.size_drew, World.heap_drewN]; first | done | omega))))).mono ?_; rintro e w1 ⟨rfl, hb1⟩; rw [G1.out]; obtain ⟨_hr1, _hr2⟩ := below_reads hb1; have _hz := Below.size hb1; (try simp only [World.size_alloc, World.size_setCell, World.size_drew, World.heap_drewN] at _hz); obtain ⟨_hr3, _hr4⟩ := below_reads (show Below w.heap.size w w1 from (by repeat (first | (with_reducible assumption) | (with_reducible exact Below.refl _ _) | ((with_reducible refine Below.alloc ?_ ?_ _); rotate_left; (focus (first | omega | (simp only [World.size_alloc, World.size_setCell, World.size_drew, World.heap_drewN]; first | done | omega)))) | ((with_reducible refine Below.setCell ?_ ?_ _); rotate_left; (focus (first | omega | (simp only [World.size_alloc, World.size_setCell, World.size_drew, World.heap_drewN]; first | done | omega)))) | (with_reducible refine below_drewN ?_ _) | (with_reducible refine Below.drew ?_) | ((with_reducible refine Below.trans ?_ (Below.mono (by assumption) ?_)); rotate_left; (focus (first | omega | (simp only [World.size_alloc, World.size_setCell, World.size_drew, World.heap_drewN]; first | done | omega))))))); have _q0 : w.heap.size < w1.heap.size := (by omega); have _q1 : w.heap.size + 1 < w1.heap.size := (by omega))
      go_ret
      exact ⟨ret_int R.out.symm, (by repeat (first | (with_reducible assumption) | (with_reducible exact Below.refl _ _) | ((with_reducible refine Below.alloc ?_ ?_ _); rotate_left; (focus (first | omega | (simp only [World.size_alloc, World.size_setCell, World.size_drew, World.heap_drewN]; first | done | omega)))) | ((with_reducible refine Below.setCell ?_ ?_ _); rotate_left; (focus (first | omega | (simp only [World.size_alloc, World.size_setCell, World.size_drew, World.heap_drewN]; first | done | omega)))) | (with_reducible refine below_drewN ?_ _) | (with_reducible refine Below.drew ?_) | ((with_reducible refine Below.trans ?_ (Below.mono (by assumption) ?_)); rotate_left; (focus (first | omega | (simp only [World.size_alloc, World.size_setCell, World.size_drew, World.heap_drewN]; first | done | omega))))))⟩
  · have R : Hid (recErr x bar ways = worksErr x) := recErr_works g1
    have g1' : (worksErr x != 0) = true := by simp [g1]
    clear g1
    go_enter Try.func63, Try.ntmps63
    go_wp2_with fail
    refine (refCheckWorks_any _ _ _ _ x B _ (rgs_on hb (n := w.heap.size) (by repeat (first | (with_reducible assumption) | (with_reducible exact Below.refl _ _) | ((with_reducible refine Below.alloc ?_ ?_ _); rotate_left; (focus (first | omega | (simp only [World.size_alloc, World.size_setCell, World.size_drew, World.heap_drewN]; first | done | omega)))) | ((with_reducible refine Below.setCell ?_ ?_ _); rotate_left; (focus (first | omega | (simp only [World.size_alloc, World.size_setCell, World.size_drew, World.heap_drewN]; first | done | omega)))) | (with_reducible refine below_drewN ?_ _) | (with_reducible refine Below.drew ?_) | ((with_reducible refine Below.trans ?_ (Below.mono (by assumption) ?_)); rotate_left; (focus (first | omega | (simp only [World.size_alloc, World.size_setCell, World.size_drew, World.heap_drewN]; first | done | omega)))))) hB) (steps_on hs (n := w.heap.size) (by repeat (first | (with_reducible assumption) | (with_reducible exact Below.refl _ _) | ((with_reducible refine Below.alloc ?_ ?_ _); rotate_left; (focus (first | omega | (simp only [World.size_alloc, World.size_setCell, World.size_drew, World.heap_drewN]; first | done | omega)))) | ((with_reducible refine Below.setCell ?_ ?_ _); rotate_left; (focus (first | omega | (simp only [World.size_alloc, World.size_setCell, World.size_drew, World.heap_drewN]; first | done | omega)))) | (with_reducible refine below_drewN ?_ _) | (with_reducible refine Below.drew ?_) | ((with_reducible refine Below.trans ?_ (Below.mono (by assumption) ?_)); rotate_left; (focus (first | omega | (simp only [World.size_alloc, World.size_setCell, World.size_drew, World.heap_drewN]; first | done | omega)))))) hB) k3 k4 k1 k2 (by (focus (first | omega | (simp only [World.size_alloc, World.size_setCell, World.size_drew, World.heap_drewN]; first | done | omega))))).mono ?_
    rintro e w1 ⟨rfl, hb1⟩
    obtain ⟨_hr1, _hr2⟩ := below_reads hb1; have _hz := Below.size hb1; (try simp only [World.size_alloc, World.size_setCell, World.size_drew, World.heap_drewN] at _hz); obtain ⟨_hr3, _hr4⟩ := below_reads (show Below w.heap.size w w1 from (by repeat (first | (with_reducible assumption) | (with_reducible exact Below.refl _ _) | ((with_reducible refine Below.alloc ?_ ?_ _); rotate_left; (focus (first | omega | (simp only [World.size_alloc, World.size_setCell, World.size_drew, World.heap_drewN]; first | done | omega)))) | ((with_reducible refine Below.setCell ?_ ?_ _); rotate_left; (focus (first | omega | (simp only [World.size_alloc, World.size_setCell, World.size_drew, World.heap_drewN]; first | done | omega)))) | (with_reducible refine below_drewN ?_ _) | (with_reducible refine Below.drew ?_) | ((with_reducible refine Below.trans ?_ (Below.mono (by assumption) ?_)); rotate_left; (focus (first | omega | (simp only [World.size_alloc, World.size_setCell, World.size_drew, World.heap_drewN]; first | done | omega))))))); have _q0 : w.heap.size < w1.heap.size := (by omega); have _q1 : w.heap.size + 1 < w1.heap.size := (by omega)
    go_wp2_with fail
    refine (refCheckWorks_any _ _ _ _ x B _ (rgs_on hb (n := w.heap.size) (by repeat (first | (with_reducible assumption) | (with_reducible exact Below.refl _ _) | ((with_reducible refine Below.alloc ?_ ?_ _); rotate_left; (focus (first | omega | (simp only [World.size_alloc, World.size_setCell, World.size_drew, World.heap_drewN]; first | done | omega)))) | ((with_reducible refine Below.setCell ?_ ?_ _); rotate_left; (focus (first | omega | (simp only [World.size_alloc, World.size_setCell, World.size_drew, World.heap_drewN]; first | done | omega)))) | (with_reducible refine below_drewN ?_ _) | (with_reducible refine Below.drew ?_) | ((with_reducible refine Below.trans ?_ (Below.mono (by assumption) ?_)); rotate_left; (focus (first | omega | (simp only [World.size_alloc, World.size_setCell, World.size_drew, World.heap_drewN]; first | done | omega)))))) hB) (steps_on hs (n := w.heap.size) (by repeat (first | (with_reducible assumption) | (with_reducible exact Below.refl _ _) | ((with_reducible refine Below.alloc ?_ ?_ _); rotate_left; (focus (first | omega | (simp only [World.size_alloc, World.size_setCell, World.size_drew, World.heap_drewN]; first | done | omega)))) | ((with_reducible refine Below.setCell ?_ ?_ _); rotate_left; (focus (first | omega | (simp only [World.size_alloc, World.size_setCell, World.size_drew, World.heap_drewN]; first | done | omega)))) | (with_reducible refine below_drewN ?_ _) | (with_reducible refine Below.drew ?_) | ((with_reducible refine Below.trans ?_ (Below.mono (by assumption) ?_)); rotate_left; (focus (first | omega | (simp only [World.size_alloc, World.size_setCell, World.size_drew, World.heap_drewN]; first | done | omega)))))) hB) k3 k4 k1 k2 (by (focus (first | omega | (simp only [World.size_alloc, World.size_setCell, World.size_drew, World.heap_drewN]; first | done | omega))))).mono ?_
    rintro e w2 ⟨rfl, hb2⟩
    obtain ⟨_hr1, _hr2⟩ := below_reads hb2; have _hz := Below.size hb2; (try simp only [World.size_alloc, World.size_setCell, World.size_drew, World.heap_drewN] at _hz); obtain ⟨_hr3, _hr4⟩ := below_reads (show Below w.heap.size w w2 from (by repeat (first | (with_reducible assumption) | (with_reducible exact Below.refl _ _) | ((with_reducible refine Below.alloc ?_ ?_ _); rotate_left; (focus (first | omega | (simp only [World.size_alloc, World.size_setCell, World.size_drew, World.heap_drewN]; first | done | omega)))) | ((with_reducible refine Below.setCell ?_ ?_ _); rotate_left; (focus (first | omega | (simp only [World.size_alloc, World.size_setCell, World.size_drew, World.heap_drewN]; first | done | omega)))) | (with_reducible refine below_drewN ?_ _) | (with_reducible refine Below.drew ?_) | ((with_reducible refine Below.trans ?_ (Below.mono (by assumption) ?_)); rotate_left; (focus (first | omega | (simp only [World.size_alloc, World.size_setCell, World.size_drew, World.heap_drewN]; first | done | omega))))))); have _q0 : w.heap.size < w2.heap.size := (by omega); have _q1 : w.heap.size + 1 < w2.heap.size := (by omega)
    go_wp2_with fail
    go_ret
    exact ⟨ret_int R.out.symm, (by repeat (first | (with_reducible assumption) | (with_reducible exact Below.refl _ _) | ((with_reducible refine Below.alloc ?_ ?_ _); rotate_left; (focus (first | omega | (simp only [World.size_alloc, World.size_setCell, World.size_drew, World.heap_drewN]; first | done | omega)))) | ((with_reducible refine Below.setCell ?_ ?_ _); rotate_left; (focus (first | omega | (simp only [World.size_alloc, World.size_setCell, World.size_drew, World.heap_drewN]; first | done | omega)))) | (with_reducible refine below_drewN ?_ _) | (with_reducible refine Below.drew ?_) | ((with_reducible refine Below.trans ?_ (Below.mono (by assumption) ?_)); rotate_left; (focus (first | omega | (simp only [World.size_alloc, World.size_setCell, World.size_drew, World.heap_drewN]; first | done | omega))))))⟩
end Go.Proofs.Ytigpefjeelgfdaa

/-
  Walks of layer 1, twelfth part: the reference's histories.
-/
namespace Go.Proofs.Ytigpefjeelgfdaa
open Go.RowKit

theorem inB_cases (n lo hi : Int) : inB n lo hi = true ∨ inB n lo hi = false := by cases inB n lo hi <;> simp

set_option maxHeartbeats 2000000 in
theorem refCheckHistory_ok (Ab As Ar Ah : Option Addr) (cb cs cr ch : Nat) (x : Works) (bar : Int) (ways hist : List Int) (B : Nat) (w : World) (h : In w B Ab As Ar cb cs cr x ways)
    (hh : IntsA .i64 w B Ah hist) (ch1 : hist.length ≤ ch) (ch2 : ch ≤ 9223372036854775807) (G : Hid (recErr x bar ways = 0)) (hl : Hid (hist.length = x.steps.length + 1)) :
    Calls Try.prog 27 #[.agg #[.slice Ab x.bars.length cb, .slice As x.steps.length cs], .agg #[.int .i64 bar, .slice Ar ways.length cr], .slice Ah hist.length ch] w
      fun e w' => e = .returned (.int .i64 (histErr x bar ways hist)) ∧ Below w.heap.size w w' := by
  have bad : Hid (∀ k, k < hist.length → histOk x bar ways hist k = false → histErr x bar ways hist = 16) := fun k hk h4 => histErr_no G.out hl.out hk h4
  have fin : Hid (allN (histOk x bar ways hist) hist.length = true → histErr x bar ways hist = 0) := histErr_ok G.out hl.out
  have ok := recOk_iff.1 G.out
  have hwl : Hid (ways.length = x.steps.length) := ok.len
  obtain ⟨m, hbar⟩ := Int.eq_ofNat_of_zero_le ok.bar0
  subst hbar
  have hmb : m < x.bars.length := by have := ok.bar1; omega
  have hmb' : (m : Int) < (x.bars.length : Int) := by omega
  obtain ⟨b0, o0, lo0, hi0, rfl, hb0, hx0, e0, e1⟩ := rgsA h.bars hmb
  have hh0 : 0 < hist.length := by have := hl.out; omega
  have hh0' : (0 : Int) < (hist.length : Int) := by omega
  obtain ⟨bh, oh, n0, rfl, hbh, hxh, f0⟩ := intsA hh hh0
  simp only [Nat.add_zero] at f0
  have hw0 : Hid (within x m ways hist 0 = (lo0, hi0)) := by simp only [Hid, within, Int.toNat_natCast, rgAt_of hx0]
  have hB := h.le
  have hbw : b0 < w.heap.size := by omega
  have hbw' : bh < w.heap.size := by omega
  have hne : ((hist.length : Int) != (x.steps.length : Int) + 1) = false := by have := hl.out; simp; omega
  have hsl : x.steps.length ≤ 9223372036854775806 := by have := hl.out; omega
  have nn : (0 : Int) ≤ (m : Int) := by omega
  rcases inB_cases n0 lo0 hi0 with p0 | p0
  · have ok0 : Hid (histOk x m ways hist 0 = true) := by simp only [Hid, histOk, hw0.out, intAt_of hxh]; exact p0
    have P0 := Lib.hid p0
    clear p0
    go_enter Try.func27, Try.ntmps27
    go_wp2_with (go_at_call 63; refine (refIsRecipe_any _ _ _ _ _ _ x m ways B _ (h.on (n := w.heap.size) (by repeat (first | (with_reducible assumption) | (with_reducible exact Below.refl _ _) | ((with_reducible refine Below.alloc ?_ ?_ _); rotate_left; (focus (first | omega | (simp only [World.size_alloc, World.size_setCell, World.size_drew, World.heap_drewN]; first | done | omega)))) | ((with_reducible refine Below.setCell ?_ ?_ _); rotate_left; (focus (first | omega | (simp only [World.size_alloc, World.size_setCell, World.size_drew, World.heap_drewN]; first | done | omega)))) | (with_reducible refine below_drewN ?_ _) | (with_reducible refine Below.drew ?_) | ((with_reducible refine Below.trans ?_ (Below.mono (by assumption) ?_)); rotate_left; (focus (first | omega | (simp only [World.size_alloc, World.size_setCell, World.size_drew, World.heap_drewN]; first | done | omega)))))) hB)).mono ?_; rintro e w1 ⟨rfl, hb1⟩; rw [G.out]; obtain ⟨_hr1, _hr2⟩ := below_reads hb1; have _hz := Below.size hb1; (try simp only [World.size_alloc, World.size_setCell, World.size_drew, World.heap_drewN] at _hz); obtain ⟨_hr3, _hr4⟩ := below_reads (show Below w.heap.size w w1 from (by repeat (first | (with_reducible assumption) | (with_reducible exact Below.refl _ _) | ((with_reducible refine Below.alloc ?_ ?_ _); rotate_left; (focus (first | omega | (simp only [World.size_alloc, World.size_setCell, World.size_drew, World.heap_drewN]; first | done | omega)))) | ((with_reducible refine Below.setCell ?_ ?_ _); rotate_left; (focus (first | omega | (simp only [World.size_alloc, World.size_setCell, World.size_drew, World.heap_drewN]; first | done | omega)))) | (with_reducible refine below_drewN ?_ _) | (with_reducible refine Below.drew ?_) | ((with_reducible refine Below.trans ?_ (Below.mono (by assumption) ?_)); rotate_left; (focus (first | omega | (simp only [World.size_alloc, World.size_setCell, World.size_drew, World.heap_drewN]; first | done | omega))))))); have _q0 : w.heap.size < w1.heap.size := (by omega); have _q1 : w.heap.size + 1 < w1.heap.size := (by omega))
    have v1 : b0 < w1.heap.size := by omega
    have v2 : bh < w1.heap.size := by omega
    refine wp_region_later (by kernel_rfl) (by kernel_rfl) ?_; have _hl := later_reads (w1); (repeat (go_big_quiet_step ((go_at_call 46; have q := refIn_any n0 lo0 hi0; rw [P0.out] at q; exact LaterW.calls (q _))))); refine wpQuiet_nil ?_; intro w2 hw'; have hb_w2 := later_below hw'; clear hw' _hl
    obtain ⟨_hr1, _hr2⟩ := below_reads hb_w2; have _hz := Below.size hb_w2; (try simp only [World.size_alloc, World.size_setCell, World.size_drew, World.heap_drewN] at _hz); obtain ⟨_hr3, _hr4⟩ := below_reads (show Below w.heap.size w w2 from (by repeat (first | (with_reducible assumption) | (with_reducible exact Below.refl _ _) | ((with_reducible refine Below.alloc ?_ ?_ _); rotate_left; (focus (first | omega | (simp only [World.size_alloc, World.size_setCell, World.size_drew, World.heap_drewN]; first | done | omega)))) | ((with_reducible refine Below.setCell ?_ ?_ _); rotate_left; (focus (first | omega | (simp only [World.size_alloc, World.size_setCell, World.size_drew, World.heap_drewN]; first | done | omega)))) | (with_reducible refine below_drewN ?_ _) | (with_reducible refine Below.drew ?_) | ((with_reducible refine Below.trans ?_ (Below.mono (by assumption) ?_)); rotate_left; (focus (first | omega | (simp only [World.size_alloc, World.size_setCell, World.size_drew, World.heap_drewN]; first | done | omega))))))); have _q0 : w.heap.size < w2.heap.size := (by omega); have _q1 : w.heap.size + 1 < w2.heap.size := (by omega)
    go_wp2_with fail
    go_loopw [7] (fun i wr => ∃ (k : Nat), k ≤ ways.length ∧ i = .int .i64 k ∧ UptoN (histOk x m ways hist) (k + 1) ∧ Below w.heap.size w wr ∧
        Box wr w.heap.size 25 #[.slice (some ⟨b0, o0, none⟩) x.bars.length cb, .slice As x.steps.length cs] ∧ Box wr (w.heap.size + 1) 42 #[.int .i64 m, .slice Ar ways.length cr])
      (fun i _ => ways.length - (intOf i).toNat)
    case atStart =>
      refine ⟨0, by omega, rfl, (UptoN.zero _).succ ok0.out, (by repeat (first | (with_reducible assumption) | (with_reducible exact Below.refl _ _) | ((with_reducible refine Below.alloc ?_ ?_ _); rotate_left; (focus (first | omega | (simp only [World.size_alloc, World.size_setCell, World.size_drew, World.heap_drewN]; first | done | omega)))) | ((with_reducible refine Below.setCell ?_ ?_ _); rotate_left; (focus (first | omega | (simp only [World.size_alloc, World.size_setCell, World.size_drew, World.heap_drewN]; first | done | omega)))) | (with_reducible refine below_drewN ?_ _) | (with_reducible refine Below.drew ?_) | ((with_reducible refine Below.trans ?_ (Below.mono (by assumption) ?_)); rotate_left; (focus (first | omega | (simp only [World.size_alloc, World.size_setCell, World.size_drew, World.heap_drewN]; first | done | omega)))))), ?_, ?_⟩
      all_goals (refine Box.of_f ?_; repeat (first | ((with_reducible refine BoxF.done (by with_reducible assumption) ?_); rfl) | ((with_reducible refine BoxF.new ?_ ?_); (focus (first | omega | (simp only [World.size_alloc, World.size_setCell, World.size_drew, World.heap_drewN]; first | done | omega))); rfl) | ((with_reducible refine BoxF.alloc ?_ ?_); (focus (first | omega | (simp only [World.size_alloc, World.size_setCell, World.size_drew, World.heap_drewN]; first | done | omega)))) | (with_reducible refine BoxF.set ?_) | ((with_reducible refine BoxF.far ?_ ?_); ((try simp only []); omega)) | (with_reducible refine BoxF.drewN ?_) | (with_reducible refine BoxF.drew ?_) | ((with_reducible refine BoxF.below (by with_reducible assumption) ?_ ?_); (focus (first | omega | (simp only [World.size_alloc, World.size_setCell, World.size_drew, World.heap_drewN]; first | done | omega))))))
    case round =>
      obtain ⟨k, hk, rfl, hup, hbl, bw, br⟩ := hrel
      obtain ⟨u5, u6, u7, u8⟩ := bw.two
      obtain ⟨t5, t6, t7, t8⟩ := br.two
      have hz1 := bw.lt
      have hz2 := br.lt
      by_cases hlt : k < ways.length
      · obtain ⟨b, off, n, e, hb, hx, d0⟩ := intsA (i := k) (ints_on hh hbl hB) (by have := hl.out; have := hwl.out; omega)
        obtain ⟨rfl, rfl⟩ : b = bh ∧ off = oh := by simp at e; exact ⟨e.1.symm, e.2.symm⟩
        clear e
        obtain ⟨b', off', n', e, hb', hx', d0'⟩ := intsA (i := k + 1) (ints_on hh hbl hB) (by have := hl.out; have := hwl.out; omega)
        obtain ⟨rfl, rfl⟩ : b' = b ∧ off' = off := by simp at e; exact ⟨e.1.symm, e.2.symm⟩
        clear e
        obtain ⟨b1, o1, b2, o2, b3, o3, A1, A2, c1, c2, ws, mm, ks, rfl, rfl, rfl, hb1', hb2', hb3', hm, f1, f2, f3, l1, l2, l3, l4, hks, hwo, hwe, hne0, _⟩ := way_at h.steps h.rways ok (i := k) (by have := hwl.out; omega)
        have f1' := (hbl.cell (p := ⟨b1, o1 + k, none⟩) (by simp only []; omega)).trans f1
        have f2' := (hbl.cell (p := ⟨b2, o2 + k, none⟩) (by simp only []; omega)).trans f2
        have f3' := (hbl.cell (p := ⟨b3, o3 + mm, none⟩) (by simp only []; omega)).trans f3
        have v0 : b' < wr.heap.size := by omega
        have v1 : b1 < wr.heap.size := by omega
        have v2 : b2 < wr.heap.size := by omega
        have v3 : b3 < wr.heap.size := by omega
        have s0 : IntKind.i64.wrap ((k : Int) + 1) = (k : Int) + 1 := IntWalk.i64_in _ (by have := hwl.out; omega)
        have s1 : (k : Int) + 1 < (hist.length : Int) := by have := hl.out; have := hwl.out; omega
        have s2 : (k : Int) < (hist.length : Int) := by omega
        have s7 : (k : Int) < (ways.length : Int) := by omega
        have s8 : (mm : Int) < (ws.length : Int) := by omega
        have s9 : (k : Int) < (x.steps.length : Int) := by have := hwl.out; omega
        have s10 : (0 : Int) ≤ (k : Int) + 1 := by omega
        have s11 : ((k : Int) + 1).toNat = k + 1 := by omega
        have hwk : Hid (histOk x m ways hist (k + 1) = inB n' (aft ks n).1 (aft ks n).2) := by
          show inB (intAt hist (k + 1)) (aft (wayOf x ways k) (intAt hist k)).1 (aft (wayOf x ways k) (intAt hist k)).2 = _
          rw [hwo.out, intAt_of hx, intAt_of hx']
        clear hwe hwo
        rcases inB_cases n' (aft ks n).1 (aft ks n).2 with p | p
        · have P := Lib.hid p
          clear p
          go_wp2_with fail
          refine wp_region_later (by kernel_rfl) (by kernel_rfl) ?_; have _hl := later_reads (wr); (repeat (go_big_quiet_step ((first | (go_at_call 55; exact LaterW.callsB (fun W hbW => refAfter_any _ _ ks n B W (kinks_on hks (n := w.heap.size) (hbl.trans (hbW.mono (by omega))) hB) l3 l4 (by have := hbW.size; omega) hne0)) | (go_at_call 46; have q := refIn_any n' (aft ks n).1 (aft ks n).2; rw [P.out] at q; exact LaterW.calls (q _)))))); refine wpQuiet_nil ?_; intro w3 hw'; have hb_w3 := later_below hw'; clear hw' _hl
          obtain ⟨_hr1, _hr2⟩ := below_reads hb_w3; have _hz := Below.size hb_w3; (try simp only [World.size_alloc, World.size_setCell, World.size_drew, World.heap_drewN] at _hz)
          go_wp2_with fail
          go_roundw
          case rel =>
            refine ⟨k + 1, by omega, by go_num, hup.succ (hwk.out.trans P.out), (by repeat (first | (with_reducible assumption) | (with_reducible exact Below.refl _ _) | ((with_reducible refine Below.alloc ?_ ?_ _); rotate_left; (focus (first | omega | (simp only [World.size_alloc, World.size_setCell, World.size_drew, World.heap_drewN]; first | done | omega)))) | ((with_reducible refine Below.setCell ?_ ?_ _); rotate_left; (focus (first | omega | (simp only [World.size_alloc, World.size_setCell, World.size_drew, World.heap_drewN]; first | done | omega)))) | (with_reducible refine below_drewN ?_ _) | (with_reducible refine Below.drew ?_) | ((with_reducible refine Below.trans ?_ (Below.mono (by assumption) ?_)); rotate_left; (focus (first | omega | (simp only [World.size_alloc, World.size_setCell, World.size_drew, World.heap_drewN]; first | done | omega)))))), ?_, ?_⟩
            all_goals (refine Box.of_f ?_; repeat (first | ((with_reducible refine BoxF.done (by with_reducible assumption) ?_); rfl) | ((with_reducible refine BoxF.new ?_ ?_); (focus (first | omega | (simp only [World.size_alloc, World.size_setCell, World.size_drew, World.heap_drewN]; first | done | omega))); rfl) | ((with_reducible refine BoxF.alloc ?_ ?_); (focus (first | omega | (simp only [World.size_alloc, World.size_setCell, World.size_drew, World.heap_drewN]; first | done | omega)))) | (with_reducible refine BoxF.set ?_) | ((with_reducible refine BoxF.far ?_ ?_); ((try simp only []); omega)) | (with_reducible refine BoxF.drewN ?_) | (with_reducible refine BoxF.drew ?_) | ((with_reducible refine BoxF.below (by with_reducible assumption) ?_ ?_); (focus (first | omega | (simp only [World.size_alloc, World.size_setCell, World.size_drew, World.heap_drewN]; first | done | omega))))))
          case measure => simp [intOf]; omega
        · have R : Hid (histErr x m ways hist = 16) := bad.out (k + 1) (by have := hl.out; have := hwl.out; omega) (hwk.out.trans p)
          have P := Lib.hid p
          clear p
          go_wp2_with fail
          refine wp_region_later (by kernel_rfl) (by kernel_rfl) ?_; have _hl := later_reads (wr); (repeat (go_big_quiet_step ((first | (go_at_call 55; exact LaterW.callsB (fun W hbW => refAfter_any _ _ ks n B W (kinks_on hks (n := w.heap.size) (hbl.trans (hbW.mono (by omega))) hB) l3 l4 (by have := hbW.size; omega) hne0)) | (go_at_call 46; have q := refIn_any n' (aft ks n).1 (aft ks n).2; rw [P.out] at q; exact LaterW.calls (q _)))))); refine wpQuiet_nil ?_; intro w3 hw'; have hb_w3 := later_below hw'; clear hw' _hl
          go_wp2_with fail
          go_ret
          exact ⟨ret_int R.out.symm, (by repeat (first | (with_reducible assumption) | (with_reducible exact Below.refl _ _) | ((with_reducible refine Below.alloc ?_ ?_ _); rotate_left; (focus (first | omega | (simp only [World.size_alloc, World.size_setCell, World.size_drew, World.heap_drewN]; first | done | omega)))) | ((with_reducible refine Below.setCell ?_ ?_ _); rotate_left; (focus (first | omega | (simp only [World.size_alloc, World.size_setCell, World.size_drew, World.heap_drewN]; first | done | omega)))) | (with_reducible refine below_drewN ?_ _) | (with_reducible refine Below.drew ?_) | ((with_reducible refine Below.trans ?_ (Below.mono (by assumption) ?_)); rotate_left; (focus (first | omega | (simp only [World.size_alloc, World.size_setCell, World.size_drew, World.heap_drewN]; first | done | omega))))))⟩
      · have R : Hid (histErr x m ways hist = 0) := fin.out (hup.done (by have := hl.out; have := hwl.out; omega))
        go_wp2_with fail
        go_ret
        exact ⟨ret_int R.out.symm, (by repeat (first | (with_reducible assumption) | (with_reducible exact Below.refl _ _) | ((with_reducible refine Below.alloc ?_ ?_ _); rotate_left; (focus (first | omega | (simp only [World.size_alloc, World.size_setCell, World.size_drew, World.heap_drewN]; first | done | omega)))) | ((with_reducible refine Below.setCell ?_ ?_ _); rotate_left; (focus (first | omega | (simp only [World.size_alloc, World.size_setCell, World.size_drew, World.heap_drewN]; first | done | omega)))) | (with_reducible refine below_drewN ?_ _) | (with_reducible refine Below.drew ?_) | ((with_reducible refine Below.trans ?_ (Below.mono (by assumption) ?_)); rotate_left; (focus (first | omega | (simp only [World.size_alloc, World.size_setCell, World.size_drew, World.heap_drewN]; first | done | omega))))))⟩
  · have R : Hid (histErr x m ways hist = 16) := bad.out 0 hh0 (by simp only [histOk, hw0.out, intAt_of hxh]; exact p0)
    have P0 := Lib.hid p0
    clear p0
    go_enter Try.func27, Try.ntmps27
    go_wp2_with (go_at_call 63; refine (refIsRecipe_any _ _ _ _ _ _ x m ways B _ (h.on (n := w.heap.size) (by repeat (first | (with_reducible assumption) | (with_reducible exact Below.refl _ _) | ((with_reducible refine Below.alloc ?_ ?_ _); rotate_left; (focus (first | omega | (simp only [World.size_alloc, World.size_setCell, World.size_drew, World.heap_drewN]; first | done | omega)))) | ((with_reducible refine Below.setCell ?_ ?_ _); rotate_left; (focus (first | omega | (simp only [World.size_alloc, World.size_setCell, World.size_drew, World.heap_drewN]; first | done | omega)))) | (with_reducible refine below_drewN ?_ _) | (with_reducible refine Below.drew ?_) | ((with_reducible refine Below.trans ?_ (Below.mono (by assumption) ?_)); rotate_left; (focus (first | omega | (simp only [World.size_alloc, World.size_setCell, World.size_drew, World.heap_drewN]; first | done | omega)))))) hB)).mono ?_; rintro e w1 ⟨rfl, hb1⟩; rw [G.out]; obtain ⟨_hr1, _hr2⟩ := below_reads hb1; have _hz := Below.size hb1; (try simp only [World.size_alloc, World.size_setCell, World.size_drew, World.heap_drewN] at _hz); obtain ⟨_hr3, _hr4⟩ := below_reads (show Below w.heap.size w w1 from (by repeat (first | (with_reducible assumption) | (with_reducible exact Below.refl _ _) | ((with_reducible refine Below.alloc ?_ ?_ _); rotate_left; (focus (first | omega | (simp only [World.size_alloc, World.size_setCell, World.size_drew, World.heap_drewN]; first | done | omega)))) | ((with_reducible refine Below.setCell ?_ ?_ _); rotate_left; (focus (first | omega | (simp only [World.size_alloc, World.size_setCell, World.size_drew, World.heap_drewN]; first | done | omega)))) | (with_reducible refine below_drewN ?_ _) | (with_reducible refine Below.drew ?_) | ((with_reducible refine Below.trans ?_ (Below.mono (by assumption) ?_)); rotate_left; (focus (first | omega | (simp only [World.size_alloc, World.size_setCell, World.size_drew, World.heap_drewN]; first | done | omega))))))); have _q0 : w.heap.size < w1.heap.size := (by omega); have _q1 : w.heap.size + 1 < w1.heap.size := (by omega))
    have v1 : b0 < w1.heap.size := by omega
    have v2 : bh < w1.heap.size := by omega
    refine wp_region_later (by kernel_rfl) (by kernel_rfl) ?_; have _hl := later_reads (w1); (repeat (go_big_quiet_step ((go_at_call 46; have q := refIn_any n0 lo0 hi0; rw [P0.out] at q; exact LaterW.calls (q _))))); refine wpQuiet_nil ?_; intro w2 hw'; have hb_w2 := later_below hw'; clear hw' _hl
    go_wp2_with fail
    go_ret
    exact ⟨ret_int R.out.symm, (by repeat (first | (with_reducible assumption) | (with_reducible exact Below.refl _ _) | ((with_reducible refine Below.alloc ?_ ?_ _); rotate_left; (focus (first | omega | (simp only [World.size_alloc, World.size_setCell, World.size_drew, World.heap_drewN]; first | done | omega)))) | ((with_reducible refine Below.setCell ?_ ?_ _); rotate_left; (focus (first | omega | (simp only [World.size_alloc, World.size_setCell, World.size_drew, World.heap_drewN]; first | done | omega)))) | (with_reducible refine below_drewN ?_ _) | (with_reducible refine Below.drew ?_) | ((with_reducible refine Below.trans ?_ (Below.mono (by assumption) ?_)); rotate_left; (focus (first | omega | (simp only [World.size_alloc, World.size_setCell, World.size_drew, World.heap_drewN]; first | done | omega))))))⟩
end Go.Proofs.Ytigpefjeelgfdaa

/-
  Walks of layer 1's statements: a history that agrees.
-/
namespace Go.Proofs.Ytigpefjeelgfdaa
open Go.RowKit

set_option maxRecDepth 100000 in
set_option maxHeartbeats 1000000 in
theorem agrees_true (Ab As Ar Ah : Option Addr) (cb cs cr ch : Nat) (x : Works) (bar : Int) (ways hist : List Int) (lo hi : Int) (B : Nat) (w : World) (h : In w B Ab As Ar cb cs cr x ways)
    (hh : IntsA .i64 w B Ah hist) (ch1 : hist.length ≤ ch) (ch2 : ch ≤ 9223372036854775807) (G : Hid (recErr x bar ways = 0)) (hl : Hid (hist.length = x.steps.length + 1)) (H : Hid (histErr x bar ways hist = 0)) (hin : Hid (inB (intAt hist x.steps.length) lo hi = true)) :
    Calls Try.prog 31 #[.agg #[.slice Ab x.bars.length cb, .slice As x.steps.length cs], .agg #[.int .i64 bar, .slice Ar ways.length cr], .slice Ah hist.length ch, .agg #[.int .i64 lo, .int .i64 hi]] w
      fun e w' => e = .returned (.bool true) ∧ Below w.heap.size w w' := by
  have hB := h.le
  have hs6 := steps_few (recOk_iff.1 G.out).works
  obtain ⟨bh, oh, n, rfl, hbh, hx, d0⟩ := intsA hh (i := x.steps.length) (by have := hl.out; omega)
  have hbw : bh < w.heap.size := by omega
  have hin' := hin
  rw [intAt_of hx] at hin'
  have hlen : ((hist.length : Nat) : Int) - 1 = (x.steps.length : Int) := by have := hl.out; omega
  have hlen2 : (x.steps.length : Int) < (hist.length : Int) := by have := hl.out; omega
  have hch : ∀ W : World, Below w.heap.size w W → Calls Try.prog 27 #[.agg #[.slice Ab x.bars.length cb, .slice As x.steps.length cs], .agg #[.int .i64 bar, .slice Ar ways.length cr], .slice (some ⟨bh, oh, none⟩) hist.length ch] W fun e w' => e = .returned (.int .i64 0) ∧ Below W.heap.size W w' := fun W hW => by
    have := refCheckHistory_ok Ab As Ar (some ⟨bh, oh, none⟩) cb cs cr ch x bar ways hist B W (h.on hW hB) (ints_on hh hW hB) ch1 ch2 G hl
    rw [H.out] at this
    exact this
  have HCH := Lib.hid hch
  have HX := Lib.hid hx
  clear hch hx
  go_enter Try.func31, Try.ntmps31
  go_wp2_with fail
  generalize hW : ((w.alloc (.cells #[.slice Ab x.bars.length cb, .slice As x.steps.length cs] 25)).alloc (.cells #[.int .i64 bar, .slice Ar ways.length cr] 42)).alloc (.cells #[.int .i64 lo, .int .i64 hi] 33) = W0
  have hb0 : Below w.heap.size w W0 := by rw [← hW]; exact (by repeat (first | (with_reducible assumption) | (with_reducible exact Below.refl _ _) | ((with_reducible refine Below.alloc ?_ ?_ _); rotate_left; (focus (first | omega | (simp only [World.size_alloc, World.size_setCell, World.size_drew, World.heap_drewN]; first | done | omega)))) | ((with_reducible refine Below.setCell ?_ ?_ _); rotate_left; (focus (first | omega | (simp only [World.size_alloc, World.size_setCell, World.size_drew, World.heap_drewN]; first | done | omega)))) | (with_reducible refine below_drewN ?_ _) | (with_reducible refine Below.drew ?_) | ((with_reducible refine Below.trans ?_ (Below.mono (by assumption) ?_)); rotate_left; (focus (first | omega | (simp only [World.size_alloc, World.size_setCell, World.size_drew, World.heap_drewN]; first | done | omega))))))
  have b1 : Box W0 w.heap.size 25 #[.slice Ab x.bars.length cb, .slice As x.steps.length cs] := by rw [← hW]; (refine Box.of_f ?_; repeat (first | ((with_reducible refine BoxF.done (by with_reducible assumption) ?_); rfl) | ((with_reducible refine BoxF.new ?_ ?_); (focus (first | omega | (simp only [World.size_alloc, World.size_setCell, World.size_drew, World.heap_drewN]; first | done | omega))); rfl) | ((with_reducible refine BoxF.alloc ?_ ?_); (focus (first | omega | (simp only [World.size_alloc, World.size_setCell, World.size_drew, World.heap_drewN]; first | done | omega)))) | (with_reducible refine BoxF.set ?_) | ((with_reducible refine BoxF.far ?_ ?_); ((try simp only []); omega)) | (with_reducible refine BoxF.drewN ?_) | (with_reducible refine BoxF.drew ?_) | ((with_reducible refine BoxF.below (by with_reducible assumption) ?_ ?_); (focus (first | omega | (simp only [World.size_alloc, World.size_setCell, World.size_drew, World.heap_drewN]; first | done | omega))))))
  have b2 : Box W0 (w.heap.size + 1) 42 #[.int .i64 bar, .slice Ar ways.length cr] := by rw [← hW]; (refine Box.of_f ?_; repeat (first | ((with_reducible refine BoxF.done (by with_reducible assumption) ?_); rfl) | ((with_reducible refine BoxF.new ?_ ?_); (focus (first | omega | (simp only [World.size_alloc, World.size_setCell, World.size_drew, World.heap_drewN]; first | done | omega))); rfl) | ((with_reducible refine BoxF.alloc ?_ ?_); (focus (first | omega | (simp only [World.size_alloc, World.size_setCell, World.size_drew, World.heap_drewN]; first | done | omega)))) | (with_reducible refine BoxF.set ?_) | ((with_reducible refine BoxF.far ?_ ?_); ((try simp only []); omega)) | (with_reducible refine BoxF.drewN ?_) | (with_reducible refine BoxF.drew ?_) | ((with_reducible refine BoxF.below (by with_reducible assumption) ?_ ?_); (focus (first | omega | (simp only [World.size_alloc, World.size_setCell, World.size_drew, World.heap_drewN]; first | done | omega))))))
  have b3 : Box W0 (w.heap.size + 1 + 1) 33 #[.int .i64 lo, .int .i64 hi] := by rw [← hW]; (refine Box.of_f ?_; repeat (first | ((with_reducible refine BoxF.done (by with_reducible assumption) ?_); rfl) | ((with_reducible refine BoxF.new ?_ ?_); (focus (first | omega | (simp only [World.size_alloc, World.size_setCell, World.size_drew, World.heap_drewN]; first | done | omega))); rfl) | ((with_reducible refine BoxF.alloc ?_ ?_); (focus (first | omega | (simp only [World.size_alloc, World.size_setCell, World.size_drew, World.heap_drewN]; first | done | omega)))) | (with_reducible refine BoxF.set ?_) | ((with_reducible refine BoxF.far ?_ ?_); ((try simp only []); omega)) | (with_reducible refine BoxF.drewN ?_) | (with_reducible refine BoxF.drew ?_) | ((with_reducible refine BoxF.below (by with_reducible assumption) ?_ ?_); (focus (first | omega | (simp only [World.size_alloc, World.size_setCell, World.size_drew, World.heap_drewN]; first | done | omega))))))
  clear hW
  have z0 := hb0.size
  have z1 := b1.lt
  have z2 := b2.lt
  have z3 := b3.lt
  have c0 : W0.cell? ⟨w.heap.size, 0, none⟩ = _ := b1.cell 0
  have c1 : W0.cell? ⟨w.heap.size, 0 + 1, none⟩ = _ := b1.cell 1
  have c2 : W0.cell? ⟨w.heap.size + 1, 0, none⟩ = _ := b2.cell 0
  have c3 : W0.cell? ⟨w.heap.size + 1, 0 + 1, none⟩ = _ := b2.cell 1
  have c4 : W0.cell? ⟨w.heap.size + 1 + 1, 0, none⟩ = _ := b3.cell 0
  have c5 : W0.cell? ⟨w.heap.size + 1 + 1, 0 + 1, none⟩ = _ := b3.cell 1
  have c6 : W0.cell? ⟨bh, oh + x.steps.length, none⟩ = some (.int .i64 n) := (hb0.cell (p := ⟨bh, oh + x.steps.length, none⟩) hbw).trans d0
  have hbw0 : bh < W0.heap.size := by omega
  have HIN := Lib.hid hin'
  clear hin'
  go_goals
  refine wp_region_later (by kernel_rfl) (by kernel_rfl) ?_; have _hl := later_reads (W0); (repeat (go_big_quiet_step ((first | (go_at_call 27; exact LaterW.callsB (fun V hV => HCH.out V (hb0.trans (hV.mono z0)))) | (go_at_call 46; have q := refIn_any n lo hi; rw [HIN.out] at q; exact LaterW.calls (q _)))))); refine wpQuiet_nil ?_; intro w2 hw'; have hb_w2 := later_below hw'; clear hw' _hl
  go_wp2_with fail
  go_ret
  exact ⟨rfl, hb0.trans (hb_w2.mono z0)⟩
end Go.Proofs.Ytigpefjeelgfdaa
