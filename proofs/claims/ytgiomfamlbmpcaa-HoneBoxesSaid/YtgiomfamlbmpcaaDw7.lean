/-
  HoneBoxes returns true, for every box, edge and strokes: which stones are a box, and the edge after strokes, are what the definitions say, or the error. No condition.
-/
import Derived.Test.YtgiomfamlbmpcaaDw6
set_option linter.unusedSimpArgs false
set_option linter.unusedVariables false
noncomputable section
namespace Go.Proofs.Ytgiomfamlbmpcaa.Eng
open Go.RowKit
def endsL (l : List HS) (rs : List (Nat → Int)) (e : HE) : List Int := ((List.range 6).filter fun i => decide (i ∈ endsG l rs rs.length [e])).map fun i : Nat => (i : Int)
abbrev mpI : MapI := ⟨24, 3, .d (.val (.int .i64 0)), true, [.i64, .i64]⟩
theorem mpI_of : MT 114 = some mpI := rfl
def QM (m : Mem) (x : SV) (q : List HE) (lo hi v : Nat) : Prop := ∃ id off cp cells, lo ≤ id ∧ id < hi ∧ id ≠ v ∧ x = .sl id off q.length (some cp) ∧ m id = some (.box 24 cells false) ∧ QIn q cells off cp
structure EI (l : List HS) (rs : List (Nat → Int)) (e0 : HE) (c n : Nat) (m : Mem) (k : Nat) (A B : List HE) (M : Nat → Bool) (n1 : Nat) (s : St) : Prop where
  le : n + 1 + 1 + 1 + 1 + 1 ≤ n1
  s0 : s.slots 0 = .ptr c 0 0
  s5 : s.slots 5 = .ptr (n + 1 + 1) 0 0
  s6 : s.slots 6 = .ptr (n + 1 + 1 + 1 + 1) 0 0
  wv : ∃ v x, n + 1 + 1 + 1 + 1 + 1 ≤ v ∧ v < n1 ∧ s.slots 7 = .ptr v 0 0 ∧ s.mem v = some (.box 99 [x] false) ∧ QM s.mem x (A ++ B) (n + 1 + 1 + 1 + 1 + 1) n1 v
  mks : s.mem (n + 1 + 1) = some (.box 113 (markS M) false)
  mm : ∃ es ck, s.mem (n + 1 + 1 + 1) = some (mapB mpI es ck) ∧ EsOk es k A B
  mb : s.mem (n + 1 + 1 + 1 + 1) = some (.box 114 [.mp (n + 1 + 1 + 1)] false)
  low : ∀ j, j < n → s.mem j = m j
  hk : k ≤ rs.length
  b0 : k = 0 → B = []
  good : ∀ a ∈ A ++ B, GoodE a
  fin : ∀ st, (M st = true ∨ st ∈ restG l rs k A B) ↔ st ∈ endsG l rs rs.length [e0]
  nd : (A ++ B).Nodup
theorem listV_snoc (L : List Int) (x : Int) : listV (L ++ [x]) = .d (intL (L ++ [x])) := by cases L <;> rfl
theorem mem_far4 {m : Mem} {a b c d j : Nat} {x y z u : Option Blk} (h1 : ¬ j = a) (h2 : ¬ j = b) (h3 : ¬ j = c) (h4 : ¬ j = d) : setMem (setMem (setMem (setMem m a x) b y) c z) d u j = m j := by simp [h1, h2, h3, h4]
theorem mem_far3 {m : Mem} {b c d j : Nat} {y z u : Option Blk} (h2 : ¬ j = b) (h3 : ¬ j = c) (h4 : ¬ j = d) : setMem (setMem (setMem m b y) c z) d u j = m j := by simp [h2, h3, h4]
def foundQ (l : List HS) (rs : List (Nat → Int)) (k : Nat) (a : HE) (A B : List HE) (i : Nat) : List HE := ((onwX l rs a k).take i).foldl (fun B p => addQ A B p.2) B
def foundM (l : List HS) (rs : List (Nat → Int)) (k : Nat) (a : HE) (M : Nat → Bool) (i : Nat) : Nat → Bool := fun st => M st || (decide (k = 1) && decide (st ∈ ((onwX l rs a k).take i).map (·.1)))
theorem onwX_good {l : List HS} (hl : l.all okS = true) (hn6 : l.length ≤ 6) {rs : List (Nat → Int)} {k : Nat} {a : HE} (ga : GoodE a) {i st : Nat} {x0 : HE} (h : (onwX l rs a k)[i]? = some (st, x0)) : st < 6 ∧ GoodE x0 := by
  cases k with
  | zero => cases h
  | succ k =>
    obtain ⟨sx, hsx, hX, rfl⟩ := strks_of (show (strks l a (rs.getD k fun _ => 0))[i]? = some (st, x0) from h)
    simp only [strX, Bool.and_eq_true] at hX
    exact ⟨by have := (List.getElem?_eq_some_iff.1 hsx).1; omega, GoodE.str (goodS hl hsx) ga hX.1⟩
theorem foundM_next {l : List HS} {rs : List (Nat → Int)} {k : Nat} {a : HE} (M : Nat → Bool) {i st : Nat} {x0 : HE} (h : (onwX l rs a k)[i]? = some (st, x0)) : foundM l rs k a M (i + 1) = if k = 1 then (fun t => if t = st then true else foundM l rs k a M i t) else foundM l rs k a M i := by
  have ht : (onwX l rs a k).take (i + 1) = (onwX l rs a k).take i ++ [(st, x0)] := by rw [List.take_add_one, h]; rfl
  by_cases hk : k = 1
  · rw [if_pos hk]
    funext t
    rw [foundM, ht]
    by_cases e : t = st
    · subst e; simp [hk]
    · simp [e, foundM, hk]
  · rw [if_neg hk]
    funext t
    simp [foundM, hk]
theorem foundQ_next {l : List HS} {rs : List (Nat → Int)} {k : Nat} {a : HE} (A B : List HE) {i st : Nat} {x0 : HE} (h : (onwX l rs a k)[i]? = some (st, x0)) : foundQ l rs k a A B (i + 1) = addQ A (foundQ l rs k a A B i) x0 := by
  have ht : (onwX l rs a k).take (i + 1) = (onwX l rs a k).take i ++ [(st, x0)] := by rw [List.take_add_one, h]; rfl
  rw [foundQ, ht, List.foldl_append]
  rfl
structure II (l : List HS) (rs : List (Nat → Int)) (c n : Nat) (m : Mem) (k : Nat) (a : HE) (A B : List HE) (M : Nat → Bool) (v n1 nb : Nat) (i nn : Nat) (O : Nat → Prop) (mm : Mem) : Prop where
  lt : n + 1 + 1 + 1 + 1 + 1 ≤ n1 ∧ n1 + 15 = nb ∧ n + 1 + 1 + 1 + 1 + 1 ≤ v ∧ v < n1
  le : nb + 6 ≤ nn
  own : ∀ j, O j → nb + 6 ≤ j
  low : ∀ j, j < n → mm j = m j
  o1 : mm nb = some (.box 73 [.ptr c 0 0] false)
  o2 : mm (nb + 1) = some (.box 24 [.d (iD a.depth), .d (iD a.burr)] false)
  o3 : mm (nb + 1 + 1) = some (.box 3 [.d (iD (k : Int))] false)
  mks : mm (n + 1 + 1) = some (.box 113 (markS (foundM l rs k a M i)) false)
  mp : ∃ es ck, mm (n + 1 + 1 + 1) = some (mapB mpI es ck) ∧ EsOk es k A (foundQ l rs k a A B i)
  mb : mm (n + 1 + 1 + 1 + 1) = some (.box 114 [.mp (n + 1 + 1 + 1)] false)
  left : mm (n1 + 1 + 1 + 1 + 1 + 1 + 1 + 1 + 1) = some (.box 3 [.d (iD (k : Int))] false)
  wv : ∃ id off cp cells, n + 1 + 1 + 1 + 1 + 1 ≤ id ∧ id < nn ∧ ¬ O id ∧ id ≠ v ∧ (id < n1 ∨ nb + 6 ≤ id) ∧ mm v = some (.box 99 [.sl id off (a :: A ++ foundQ l rs k a A B i).length (some cp)] false) ∧ mm id = some (.box 24 cells false) ∧ QIn (a :: A ++ foundQ l rs k a A B i) cells off cp
  good : ∀ b ∈ foundQ l rs k a A B i, GoodE b
  nd : (A ++ foundQ l rs k a A B i).Nodup
theorem II.stable {l : List HS} {rs : List (Nat → Int)} {c n : Nat} {m : Mem} {k : Nat} {a : HE} {A B : List HE} {M : Nat → Bool} {v n1 nb : Nat} (i : Nat) : StableN (II l rs c n m k a A B M v n1 nb i) := by
  rintro nn O mm n2 O2 m' h1 h2 h3 ⟨lt, a1, a2, a3, a4, a5, a6, a7, ⟨es, ck, a8, a9⟩, b1, b2, ⟨id, off, cp, cells, c1, c2, c3, c4, c5, c6, c7, c8⟩, d1, d9⟩
  have hO : ∀ j, O2 j → nb + 6 ≤ j := fun j hj => (h2 j hj).elim (a2 j) fun h => by omega
  have hl : ∀ j, j < nb + 6 → m' j = mm j := fun j hj => h3 j (by omega) fun h => by have := hO j h; omega
  have hid : ¬ O2 id := fun h => (h2 id h).elim c3 fun h => by omega
  exact ⟨lt, by omega, hO, fun j hj => (hl j (by omega)).trans (a3 j hj), (hl _ (by omega)).trans a4, (hl _ (by omega)).trans a5, (hl _ (by omega)).trans a6, (hl _ (by omega)).trans a7, ⟨es, ck, (hl _ (by omega)).trans a8, a9⟩, (hl _ (by omega)).trans b1, (hl _ (by omega)).trans b2, ⟨id, off, cp, cells, c1, by omega, hid, c4, c5, (hl _ (by omega)).trans c6, (h3 id c2 hid).trans c7, c8⟩, d1, d9⟩
theorem EI.cases {l : List HS} {rs : List (Nat → Int)} {e0 : HE} {c n : Nat} {m : Mem} {k : Nat} {A B : List HE} {M : Nat → Bool} {n1 : Nat} {s : St} (h : EI l rs e0 c n m k A B M n1 s) : (A = [] ∧ B = []) ∨ ∃ k' a A' B', EI l rs e0 c n m k' (a :: A') B' M n1 s ∧ muG l rs k' (a :: A') B' = muG l rs k A B := by
  rcases A with _ | ⟨a, A⟩
  · rcases B with _ | ⟨b, B⟩
    · exact .inl ⟨rfl, rfl⟩
    · right
      cases k with
      | zero => exact absurd (h.b0 rfl) (by simp)
      | succ k =>
        refine ⟨k, b, B, [], ⟨h.le, h.s0, h.s5, h.s6, ?_, h.mks, ?_, h.mb, h.low, by have := h.hk; omega, fun _ => rfl, ?_, fun st => ?_, by simpa using h.nd⟩, (muG_new l rs k (b :: B)).symm⟩
        · simpa using h.wv
        · obtain ⟨es, ck, h1, h2⟩ := h.mm
          exact ⟨es, ck, h1, h2.new⟩
        · simpa using h.good
        · rw [← h.fin st, restG_new]
  · exact .inr ⟨k, a, A, B, h, rfl⟩
set_option maxRecDepth 100000 in
set_option maxHeartbeats 8000000 in
theorem ends_w (l : List HS) (hl : l.all okS = true) (hn6 : l.length ≤ 6) (rs : List (Nat → Int)) (hrs : rs.length ≤ 800) (e0 : HE) (ge0 : GoodE e0) (c lo n : Nat) (m : Mem) (hc : CourseAt l rs m c lo n) :
    CWp Try.prog 72 [.ptr c 0 0, .agg [.d (iD e0.depth), .d (iD e0.burr)]] n m fun y _ m' => y = .d (intL (endsL l rs e0)) ∧ ∀ j, j < n → m' j = m j := by
  obtain ⟨x, hcl, hch, hcc, hcx⟩ := id hc
  have hlx : lenSV x = some rs.length := by
    rcases hcx with ⟨rfl, rfl⟩ | ⟨id, -, -, rfl, -⟩
    · rfl
    · rfl
  refine cwpK tabOk Try.func72 rfl rfl (show 2 ≤ _ by decide) rfl fun _ => ?_; simp only [Try.ntmps72]
  refine AWi.seqK fun _ => ?_
  refine AWi.region tabOk ?_
  simp [-getElem?_pos, z0, z1, z2]
  with_reducible refine KI.go ?_
  repeat (first | (with_reducible first | refine AWi.seqK fun _ => ?_ | refine AWi.blockK fun _ => ?_ | refine KI.go ?_) | ((first | refine AWi.region tabOk ?_ | refine AWi.condK fun _ _ => ?_); simp [-getElem?_pos, z0, z1, z2, z0]) | ((first | refine AWi.ret ?_ | refine AWi.skip ?_ | refine AWi.exit ?_); try simp only [thenP]) | (with_reducible refine BB.go ?_; simp only [blockP, thenP, reduceIte]))
  have a0 : c < n + 1 + 1 + 1 := by omega
  have k1 : ¬ c = n + 1 + 1 + 1 := by omega
  have k2 : ¬ c = n + 1 + 1 := by omega
  have k3 : ¬ c = n := by omega
  refine AWi.mono (Q := fun ex n2 s2 => ex = .normal ∧ n2 = n + 1 + 1 + 1 + 1 + 1 ∧ s2.slots 0 = .ptr c 0 0 ∧ s2.slots 3 = .ptr n 0 0 ∧ s2.slots 4 = .nilS ∧ s2.slots 5 = .ptr (n + 1 + 1) 0 0 ∧ s2.slots 6 = .ptr (n + 1 + 1 + 1 + 1) 0 0 ∧ s2.mem n = some (.box 24 [.d (iD e0.depth), .d (iD e0.burr)] false) ∧ s2.mem (n + 1 + 1) = some (.box 113 (markS fun _ => false) false) ∧ s2.mem (n + 1 + 1 + 1) = some (mapB mpI [(heK e0, .d (iD (rs.length : Int)), 0)] 1) ∧ s2.mem (n + 1 + 1 + 1 + 1) = some (.box 114 [.mp (n + 1 + 1 + 1)] false) ∧ ∀ j, j < n → s2.mem j = m j) ?_ ?_
  · rcases hcx with ⟨rfl, rfl⟩ | ⟨id, b1, b2, rfl, b3⟩
    all_goals
      refine AWi.drawsV mixedH (by kernel_rfl) ?_
      refine ExecV.makeMap mpI rfl rfl (by simp) ?_
      iterate 6 (with_reducible refine ExecV.auto tabOk ?_; simp [-getElem?_pos, z0, z1, z2, kindV, isPure, hcc, a0, k1, k2, k3]; try (refine And.intro (OkV_old (by simp; try omega) (by omega) (by simp [AllAcc])) ?_))
      refine ExecV.insert mtOk (.inr rfl) (id := n + 1 + 1 + 1) (clock := 0) (es := []) (k := heK e0) (kv := .agg [.d (iD e0.depth), .d (iD e0.burr)]) rfl mpI_of (by simp) (by simp) (by simp) rfl rfl rfl (by simp; rfl) ?_ ?_
      · (refine OkV_last (by simp; try omega) ?_; repeat' (first | exact trivial | refine And.intro (show ordB _ _ _ = true from by kernel_rfl) ?_))
      repeat (with_reducible refine ExecV.auto tabOk ?_; simp [-getElem?_pos, z0, z1, z2, kindV, isPure, hcc, a0, k1, k2, k3]; try (refine And.intro (OkV_old (by simp; try omega) (by omega) (by simp [AllAcc])) ?_))
      refine And.intro ?_ ?_
      · (refine OkV_last (by simp; try omega) ?_; repeat' (first | exact trivial | refine And.intro (show ordB _ _ _ = true from by kernel_rfl) ?_))
      unfold ExecV
      simp [markS, List.range_succ]
      intro j hj
      simp [show ¬ j = n by omega, show ¬ j = n + 1 + 1 by omega, show ¬ j = n + 1 + 1 + 1 by omega, show ¬ j = n + 1 + 1 + 1 + 1 by omega]
  rintro ex n2 s2 ⟨rfl, rfl, t0, t3, t4, t5, t6, me, mk, mm, mb, low⟩
  simp only [thenP]
  with_reducible refine KI.go ?_
  repeat (with_reducible refine AWi.seqK fun _ => ?_)
  refine AWi.regionS ?_
  refine ExecS.plain tabOk (out := { res := .agg [.d (iD e0.depth), .d (iD e0.burr)] }) rfl rfl (by simp [-getElem?_pos, z0, z1, z2, t3, me]) ?_
  refine ExecS.lit tabOk (l := [(0, .agg [.d (iD e0.depth), .d (iD e0.burr)])]) (cells := heS e0) rfl rfl (TB99) rfl (TB24) (by simp [-getElem?_pos, z0, z1, z2]) (by rfl) (by simp) ?_
  refine ExecS.plain tabOk (out := { res := .ptr (n + 1 + 1 + 1 + 1 + 1 + 1 + 1) 0 0, nw := some (.box 99 [.nilS] false) }) rfl rfl (by simp [-getElem?_pos, z0, z1, z2]) ?_
  refine ExecS.plain tabOk (out := { res := .und, wr := some (n + 1 + 1 + 1 + 1 + 1 + 1 + 1, some (.box 99 [.sl (n + 1 + 1 + 1 + 1 + 1 + 1) 0 1 (some 1)] false)) }) rfl rfl (by simp [-getElem?_pos, z0, z1, z2, putS]) ?_
  simp [putS, ExecS]
  try simp only [thenP]
  with_reducible refine KI.go ?_
  refine AWi.blockK fun _ => ?_
  refine AWi.loopK (ι := Nat × List HE × List HE × (Nat → Bool)) (fun p n1 s => EI l rs e0 c n m p.1 p.2.1 p.2.2.1 p.2.2.2 n1 s) (fun p => muG l rs p.1 p.2.1 p.2.2.1) (rs.length, [e0], [], fun _ => false) ?_ ?_
  · refine ⟨by omega, by simp [t0], by simp [t5], by simp [t6], ⟨n + 1 + 1 + 1 + 1 + 1 + 1 + 1, .sl (n + 1 + 1 + 1 + 1 + 1 + 1) 0 1 (some 1), by omega, by omega, by simp, by simp, ⟨n + 1 + 1 + 1 + 1 + 1 + 1, 0, 1, heS e0, by omega, by omega, by omega, rfl, by simp, ⟨by simp, by simp, rfl⟩⟩⟩, by simp [mk], ⟨[(heK e0, .d (iD (rs.length : Int)), 0)], 1, by simp [mm], rfl⟩, by simp [mb], fun j hj => ?_, Nat.le_refl _, fun _ => rfl, fun a ha => ?_, fun st => ?_, by simp⟩
    · simp [show ¬ j = n + 1 + 1 + 1 + 1 + 1 + 1 + 1 by omega, show ¬ j = n + 1 + 1 + 1 + 1 + 1 + 1 by omega, low j hj]
    · simp at ha; subst ha; exact ge0
    · cases rs.length with
      | zero => simp [restG, endsG]
      | succ k => simp [restG, endsG]
  rintro ⟨k0, A0, B0, M⟩ n1 s hE0 kk
  simp only at hE0
  rcases EI.cases hE0 with ⟨rfl, rfl⟩ | ⟨k, a, A, B, hE, hmu⟩
  · obtain ⟨hle, s0, s5, s6, ⟨v, x1, v1, v2, s7, v4, ⟨id, off, cp, cells, i1, i2, i3, rfl, i4, hQ⟩⟩, mk, -, mb, low, hk, hb0, hgood, hfin, hnd⟩ := hE0
    repeat (with_reducible refine AWi.seqK fun _ => ?_)
    refine AWi.regionS ?_
    refine ExecS.plain tabOk (out := { res := .sl id off 0 (some cp) }) rfl rfl (by simp [-getElem?_pos, z0, z1, z2, s7, v4]) ?_
    refine ExecS.len tabOk (id := id) (off := off) (k := 0) (c := some cp) rfl rfl rfl rfl rfl (TB99) rfl (by simp [-getElem?_pos, z0, z1, z2, putS]) ?_
    refine ExecS.plain tabOk (out := { res := .d (bD false) }) rfl rfl (by simp [-getElem?_pos, z0, z1, z2, putS]) ?_
    simp [putS, ExecS]
    try simp only [thenP]
    have htk : List.take 6 (markS M) = markS M := List.take_of_length_le (by simp)
    have hmax : ∀ i : Nat, i ≤ 6 → (((List.range i).filter M).map fun i : Nat => (i : Int)).length ≤ 6 := fun i hi => by
      rw [List.length_map]
      exact Nat.le_trans (List.length_filter_le _ _) (by simpa using hi)
    have hend : ((List.range 6).filter M).map (fun i : Nat => (i : Int)) = endsL l rs e0 := by
      rw [endsL]
      congr 1
      refine List.filter_congr fun st _ => ?_
      have h := hfin st
      rw [restG_nil] at h
      rw [Bool.eq_iff_iff, decide_eq_true_iff, ← h]
      simp
    repeat (first | (with_reducible first | refine AWi.seqK fun _ => ?_ | refine AWi.blockK fun _ => ?_ | refine KI.go ?_) | ((first | refine AWi.region tabOk ?_ | refine AWi.condK fun _ _ => ?_); simp [-getElem?_pos, z0, z1, z2, s5, mk, htk]) | ((first | refine AWi.ret ?_ | refine AWi.skip ?_ | refine AWi.exit ?_); try simp only [thenP]) | (with_reducible refine BB.go ?_; simp only [blockP, thenP, reduceIte]))
    refine AWi.loopK (ι := { i : Nat // i ≤ 6 }) (fun i n2 s2 => s2.slots 14 = listV (((List.range i.1).filter M).map fun i : Nat => (i : Int)) ∧ s2.slots 67 = .agg (markS M) ∧ s2.slots 68 = .d (iD i.1) ∧ s2.mem = s.mem) (fun i => 6 - i.1) ⟨0, by omega⟩ ?_ ?_
    · simp [listV]
    rintro ⟨i, hi⟩ n2 s2 ⟨t14, t67, t68, tm⟩ kk2
    simp only at t14 t68
    have hL := hmax i hi
    by_cases hlt : i < 6
    · have hi5 : i ≤ 5 := by omega
      have hii : (i : Int) < 6 := by omega
      have hget : List.take 1 (List.drop i (markS M)) = [.d (bD (M i))] := by
        apply List.ext_getElem?
        intro j
        rw [List.getElem?_take, List.getElem?_drop]
        by_cases hj : j < 1
        · obtain rfl : j = 0 := by omega
          simp [markS, hlt]
        · rw [if_neg hj, List.getElem?_eq_none (by simp; omega)]
      have w1 : IntKind.i64.wrap ((i : Int) + 1) = (i : Int) + 1 := wrap64_in (by omega)
      repeat (first | (with_reducible first | refine AWi.seqK fun _ => ?_ | refine AWi.blockK fun _ => ?_ | refine KI.go ?_) | ((first | refine AWi.region tabOk ?_ | refine AWi.condK fun _ _ => ?_); simp [-getElem?_pos, z0, z1, z2, t14, t67, t68, hii, hi5, hget]) | ((first | refine AWi.ret ?_ | refine AWi.skip ?_ | refine AWi.exit ?_); try simp only [thenP]) | (with_reducible refine BB.go ?_; simp only [blockP, thenP, reduceIte]))
      have hnext : ((List.range (i + 1)).filter M).map (fun i : Nat => (i : Int)) = if M i = true then ((List.range i).filter M).map (fun i : Nat => (i : Int)) ++ [(i : Int)] else ((List.range i).filter M).map fun i : Nat => (i : Int) := by
        rw [List.range_succ, List.filter_append, List.map_append]
        by_cases h : M i = true <;> simp [h]
      by_cases hM : M i = true
      · rw [if_pos hM] at hnext
        rw [if_pos hM]
        repeat (first | (with_reducible first | refine AWi.seqK fun _ => ?_ | refine AWi.blockK fun _ => ?_ | refine KI.go ?_) | ((first | refine AWi.region tabOk ?_ | refine AWi.condK fun _ _ => ?_); simp [-getElem?_pos, z0, z1, z2, t14]) | ((first | refine AWi.ret ?_ | refine AWi.skip ?_ | refine AWi.exit ?_); try simp only [thenP]) | (with_reducible refine BB.go ?_; simp only [blockP, thenP, reduceIte]))
        refine ExecI.callC ((RCall.ofA4 (grown_c (((List.range i).filter M).map fun i : Nat => (i : Int)) (i : Int) (by omega)) (svs := [listV (((List.range i).filter M).map fun i : Nat => (i : Int)), .d (iD (i : Int))]) (by rw [mapO, listV_toD]; rfl) _).cwp (fun _ _ h => h) (x := .d (intL (((List.range i).filter M).map (fun i : Nat => (i : Int)) ++ [(i : Int)]))) rfl _) rfl (by simp [calleeS, evList, iD]) ?_
        rintro y n9 m9 ⟨rfl, rfl, rfl⟩
        simp [-getElem?_pos, z0, z1, z2]
        repeat (first | (with_reducible first | refine AWi.seqK fun _ => ?_ | refine AWi.blockK fun _ => ?_ | refine KI.go ?_) | ((first | refine AWi.region tabOk ?_ | refine AWi.condK fun _ _ => ?_); simp [-getElem?_pos, z0, z1, z2, t68, w1]) | ((first | refine AWi.ret ?_ | refine AWi.skip ?_ | refine AWi.exit ?_); try simp only [thenP]) | (with_reducible refine BB.go ?_; simp only [blockP, thenP, reduceIte]))
        refine LI.go ⟨i + 1, hlt⟩ ⟨?_, by simp [t67], by simp, by simp [tm]⟩ (by simp; omega)
        simp only [hnext]
        rw [listV_snoc]
        simp
      · rw [if_neg hM] at hnext
        rw [if_neg hM]
        repeat (first | (with_reducible first | refine AWi.seqK fun _ => ?_ | refine AWi.blockK fun _ => ?_ | refine KI.go ?_) | ((first | refine AWi.region tabOk ?_ | refine AWi.condK fun _ _ => ?_); simp [-getElem?_pos, z0, z1, z2, t68, w1]) | ((first | refine AWi.ret ?_ | refine AWi.skip ?_ | refine AWi.exit ?_); try simp only [thenP]) | (with_reducible refine BB.go ?_; simp only [blockP, thenP, reduceIte]))
        refine LI.go ⟨i + 1, hlt⟩ ⟨?_, by simp [t67], by simp, by simp [tm]⟩ (by simp; omega)
        simp only [hnext]
        simp [t14]
    · obtain rfl : i = 6 := by omega
      repeat (first | (with_reducible first | refine AWi.seqK fun _ => ?_ | refine AWi.blockK fun _ => ?_ | refine KI.go ?_) | ((first | refine AWi.region tabOk ?_ | refine AWi.condK fun _ _ => ?_); simp [-getElem?_pos, z0, z1, z2, t14, t67, t68]) | ((first | refine AWi.ret ?_ | refine AWi.skip ?_ | refine AWi.exit ?_); try simp only [thenP]) | (with_reducible refine BB.go ?_; simp only [blockP, thenP, reduceIte]))
      refine ExecI.callC ((RCall.ofA4 (taken_c (((List.range 6).filter M).map fun i : Nat => (i : Int)) (by omega)) (svs := [listV (((List.range 6).filter M).map fun i : Nat => (i : Int))]) (by rw [mapO, listV_toD]; rfl) _).cwp (fun _ _ h => h) (x := .d (intL (((List.range 6).filter M).map fun i : Nat => (i : Int)))) rfl _) rfl (by simp [calleeS, evList]) ?_
      rintro y n9 m9 ⟨rfl, rfl, rfl⟩
      simp [-getElem?_pos, z0, z1, z2]
      repeat (first | (with_reducible first | refine AWi.seqK fun _ => ?_ | refine AWi.blockK fun _ => ?_ | refine KI.go ?_) | ((first | refine AWi.region tabOk ?_ | refine AWi.condK fun _ _ => ?_); simp [-getElem?_pos, z0, z1, z2, z0]) | ((first | refine AWi.ret ?_ | refine AWi.skip ?_ | refine AWi.exit ?_); try simp only [thenP]) | (with_reducible refine BB.go ?_; simp only [blockP, thenP, reduceIte]))
      refine RI.ret rfl ⟨?_, fun j hj => by simp [tm, low j hj]⟩
      rw [hend]
      rfl
  clear hE0
  obtain ⟨hle, s0, s5, s6, ⟨v, x1, v1, v2, s7, v4, ⟨id, off, cp, cells, i1, i2, i3, rfl, i4, hQ⟩⟩, mk, ⟨es, ck, mm, hes⟩, mb, low, hk, hb0, hgood, hfin, hnd⟩ := hE
  obtain ⟨b0, es, rfl, hes'⟩ := hes.head
  obtain ⟨N, hN⟩ : ∃ N, N = (a :: A ++ B).length := ⟨_, rfl⟩
  have hN1 : 0 < N := by rw [hN]; simp
  have hNi : (0 : Int) < (N : Int) := by omega
  have hQle := hQ.le
  have hroom := hQ.room
  have hhd := hQ.head
  rw [← hN] at v4 hQle
  have hld : off + 2 ≤ cells.length := by omega
  have hlk : lookV mpI ((heK a, SV.d (iD (k : Int)), b0) :: es) (heK a) false = .d (iD (k : Int)) := by simp [lookV, findK_cons]
  have v5 : ¬ v = n1 + 1 + 1 + 1 + 1 := by omega
  have m5 : ¬ n + 1 + 1 + 1 = n1 + 1 + 1 + 1 + 1 := by omega
  have m6 : ¬ n + 1 + 1 + 1 + 1 = n1 + 1 + 1 + 1 + 1 := by omega
  have m7 : ¬ n = n1 := by omega
  have m8 : ∀ d : Nat, ¬ n = n1 + d := fun d => by omega
  have m9 : ∀ d : Nat, ¬ n1 + d = n := fun d => by omega
  have m10 : ¬ n1 = n := by omega
  repeat (with_reducible refine AWi.seqK fun _ => ?_)
  refine AWi.regionS ?_
  refine ExecS.plain tabOk (out := { res := .sl id off N (some cp) }) rfl rfl (by simp [-getElem?_pos, z0, z1, z2, s7, v4]) ?_
  refine ExecS.len tabOk (id := id) (off := off) (k := N) (c := some cp) rfl rfl rfl rfl rfl (TB99) rfl (by simp [-getElem?_pos, z0, z1, z2, putS]) ?_
  refine ExecS.plain tabOk (out := { res := .d (bD true) }) rfl rfl (by simp [-getElem?_pos, z0, z1, z2, putS, hN1]) ?_
  simp [putS, ExecS]
  try simp only [thenP]
  repeat (first | (with_reducible first | refine AWi.seqK fun _ => ?_ | refine AWi.blockK fun _ => ?_ | refine KI.go ?_) | (refine AWi.condK fun _ _ => ?_; simp [-getElem?_pos, z0, z1, z2, z0]) | ((first | refine AWi.ret ?_ | refine AWi.skip ?_ | refine AWi.exit ?_); try simp only [thenP]) | (with_reducible refine BB.go ?_; simp only [blockP, thenP, reduceIte]))
  refine AWi.regionS ?_
  refine ExecS.plain tabOk (out := { res := .sl id off N (some cp) }) rfl rfl (by simp [-getElem?_pos, z0, z1, z2, s7, v4]) ?_
  refine ExecS.index tabOk (kd := .i64) (id := id) (off := off) (k := N) (c := some cp) (j := 0) rfl rfl (TB99) rfl (TB24) (by simp [-getElem?_pos, z0, z1, z2, putS]) (by simp [-getElem?_pos, z0, z1, z2]) hN1 ?_
  refine ExecS.plain tabOk (out := { res := .agg (heS a) }) rfl rfl (by simp [-getElem?_pos, z0, z1, z2, putS, i4, hld, hhd]) ?_
  refine ExecS.plain tabOk (out := { res := .ptr (n1 + 1 + 1 + 1 + 1) 0 0, nw := some (.box 24 [.d (iD 0), .d (iD 0)] false) }) rfl rfl (by simp [-getElem?_pos, z0, z1, z2]) ?_
  refine ExecS.plain tabOk (out := { res := .und, wr := some (n1 + 1 + 1 + 1 + 1, some (.box 24 (heS a) false)) }) rfl rfl (by simp [-getElem?_pos, z0, z1, z2, putS, heS]) ?_
  simp [putS, ExecS]
  try simp only [thenP]
  repeat (first | (with_reducible first | refine AWi.seqK fun _ => ?_ | refine AWi.blockK fun _ => ?_ | refine KI.go ?_) | (refine AWi.condK fun _ _ => ?_; simp [-getElem?_pos, z0, z1, z2, z0]) | ((first | refine AWi.ret ?_ | refine AWi.skip ?_ | refine AWi.exit ?_); try simp only [thenP]) | (with_reducible refine BB.go ?_; simp only [blockP, thenP, reduceIte]))
  refine AWi.regionS ?_
  refine ExecS.plain tabOk (out := { res := .mp (n + 1 + 1 + 1) }) rfl rfl (by simp [-getElem?_pos, z0, z1, z2, s6, mb, m7, m8]) ?_
  refine ExecS.plain tabOk (out := { res := .agg (heS a) }) rfl rfl (by simp [-getElem?_pos, z0, z1, z2, putS, heS]) ?_
  refine ExecS.lookup mtOk (id := n + 1 + 1 + 1) (clock := ck) (es := (heK a, SV.d (iD (k : Int)), b0) :: es) (kv := .agg (heS a)) (l := heK a) rfl rfl mpI_of (by simp [-getElem?_pos, z0, z1, z2, putS]) (by simp [-getElem?_pos, z0, z1, z2, putS, mm, m7, m8, m5]) (by simp [-getElem?_pos, z0, z1, z2, putS]) rfl hes.lens ?_
  rw [hlk]
  refine ExecS.plain tabOk (out := { res := .ptr (n1 + 1 + 1 + 1 + 1 + 1 + 1 + 1 + 1) 0 0, nw := some (.box 3 [.d (iD 0)] false) }) rfl rfl (by simp [-getElem?_pos, z0, z1, z2]) ?_
  refine ExecS.plain tabOk (out := { res := .und, wr := some (n1 + 1 + 1 + 1 + 1 + 1 + 1 + 1 + 1, some (.box 3 [.d (iD (k : Int))] false)) }) rfl rfl (by simp [-getElem?_pos, z0, z1, z2, putS]) ?_
  simp [putS, ExecS]
  try simp only [thenP]
  repeat (first | (with_reducible first | refine AWi.seqK fun _ => ?_ | refine AWi.blockK fun _ => ?_ | refine KI.go ?_) | (refine AWi.condK fun _ _ => ?_; simp [-getElem?_pos, z0, z1, z2, z0]) | ((first | refine AWi.ret ?_ | refine AWi.skip ?_ | refine AWi.exit ?_); try simp only [thenP]) | (with_reducible refine BB.go ?_; simp only [blockP, thenP, reduceIte]))
  refine AWi.mono (Q := fun ex n2 s2 => ex = .normal ∧ n2 = n1 + 1 + 1 + 1 + 1 + 1 + 1 + 1 + 1 + 1 + 1 + 1 + 1 ∧ s2.slots 0 = .ptr c 0 0 ∧ s2.slots 5 = .ptr (n + 1 + 1) 0 0 ∧ s2.slots 6 = .ptr (n + 1 + 1 + 1 + 1) 0 0 ∧ s2.slots 7 = .ptr v 0 0 ∧ s2.slots 8 = .ptr (n1 + 1 + 1 + 1 + 1) 0 0 ∧ s2.slots 9 = .ptr (n1 + 1 + 1 + 1 + 1 + 1 + 1 + 1 + 1) 0 0 ∧
    s2.mem (n1 + 1 + 1 + 1 + 1) = some (.box 24 [.d (iD a.depth), .d (iD a.burr)] false) ∧ s2.mem (n1 + 1 + 1 + 1 + 1 + 1 + 1 + 1 + 1) = some (.box 3 [.d (iD (k : Int))] false) ∧ s2.mem (n + 1 + 1 + 1) = some (mapB mpI es ck) ∧ ∀ j, j < n1 → ¬ j = n + 1 + 1 + 1 → s2.mem j = s.mem j) ?_ ?_
  · refine AWi.regionS ?_
    refine ExecS.plain tabOk (out := { res := .mp (n + 1 + 1 + 1) }) rfl rfl (by simp [-getElem?_pos, z0, z1, z2, s6, mb, m7, m8]) ?_
    refine ExecS.plain tabOk (out := { res := .agg (heS a) }) rfl rfl (by simp [-getElem?_pos, z0, z1, z2, putS, heS]) ?_
    refine ExecS.delete mtOk (id := n + 1 + 1 + 1) (clock := ck) (es := (heK a, SV.d (iD (k : Int)), b0) :: es) (kv := .agg (heS a)) (l := heK a) (j := 0) rfl rfl rfl rfl rfl mpI_of (by simp [-getElem?_pos, z0, z1, z2, putS]) (by simp [-getElem?_pos, z0, z1, z2, putS, mm, m5, m7, m8]) (by simp [-getElem?_pos, z0, z1, z2, putS]) rfl hes.lens (by simp [findK_cons]) ?_
    simp [putS, ExecS, s0, s5, s6, s7, m9, m10, heS]
    refine ⟨by omega, fun j hj hne => ?_⟩
    simp [hne, show ¬ j = n1 + 1 + 1 + 1 + 1 by omega, show ¬ j = n1 + 1 + 1 + 1 + 1 + 1 + 1 + 1 + 1 by omega]
  rintro ex n2 s2 ⟨rfl, rfl, t0, t5, t6, t7, t8, t9, me, mk9, mm2, low2⟩
  try simp only [thenP]
  repeat (first | (with_reducible first | refine AWi.seqK fun _ => ?_ | refine AWi.blockK fun _ => ?_ | refine KI.go ?_) | ((first | refine AWi.region tabOk ?_ | refine AWi.condK fun _ _ => ?_); simp [-getElem?_pos, z0, z1, z2, t0, t8, t9, me, mk9]) | ((first | refine AWi.ret ?_ | refine AWi.skip ?_ | refine AWi.exit ?_); try simp only [thenP]) | (with_reducible refine BB.go ?_; simp only [blockP, thenP, reduceIte]))
  generalize hnb : n1 + 1 + 1 + 1 + 1 + 1 + 1 + 1 + 1 + 1 + 1 + 1 + 1 + 1 + 1 + 1 = nb
  refine ExecI.callC (onward_w c a k _ _) rfl (by simp [calleeS, evList, iD]) ?_
  rintro y n' m' ⟨rfl, rfl, rfl⟩
  simp [-getElem?_pos, z0, z1, z2]
  repeat (first | (with_reducible first | refine AWi.seqK fun _ => ?_ | refine AWi.blockK fun _ => ?_ | refine KI.go ?_) | (refine AWi.condK fun _ _ => ?_; simp [-getElem?_pos, z0, z1, z2, z0]) | ((first | refine AWi.ret ?_ | refine AWi.skip ?_ | refine AWi.exit ?_); try simp only [thenP]) | (with_reducible refine BB.go ?_; simp only [blockP, thenP, reduceIte]))
  have hga : GoodE a := hgood a (by simp)
  have hcn : c < nb := by omega
  have b1 : n1 < nb := by omega
  have b2 : ∀ d : Nat, ¬ n = nb + d := fun d => by omega
  refine AWi.iterK2 (onward1_2 l hl hn6 rs hrs a hga k hk (nb + 1 + 1) nb (nb + 1) c) (f := 84) (us := []) (vs := [.ptr (nb + 1 + 1) 0 0, .ptr nb 0 0, .ptr (nb + 1) 0 0]) (by simp [opd, evList]) (fun _ => rfl) (fun _ h => by cases h) rfl (by intro z hz; obtain ⟨x, _, rfl⟩ := List.mem_map.1 hz; rfl)
    (fun i nn O mm => II l rs c n m k a A B M v n1 nb i nn O mm) (fun cd nn O mm => False) II.stable ?_ ?_ ?_ ?_ ?_ ?_
  · rintro cd nn O mm n3 O3 m3 h1 h2 h3 h4
    exact h4
  · rintro i nn O mm h
    exact ⟨⟨false, h.o3⟩, ⟨false, h.o1⟩, ⟨false, h.o2⟩, hc.k fun j hj => h.low j hj⟩
  · have ho : ∀ j, j < nb → onwM s2.mem c a k nb j = s2.mem j := fun j hj => by
      simp [show ¬ j = nb by omega, show ¬ j = nb + 1 by omega, show ¬ j = nb + 1 + 1 by omega]
    have hs : ∀ j, j < n1 → ¬ j = n + 1 + 1 + 1 → onwM s2.mem c a k nb j = s.mem j := fun j hj hne => (ho j (by omega)).trans (low2 j hj hne)
    have hm0 : foundM l rs k a M 0 = M := by funext st; simp [foundM]
    refine ⟨⟨by omega, by omega, by omega, by omega⟩, by omega, fun _ h => h.elim, fun j hj => (hs j (by omega) (by omega)).trans (low j hj), by simp, by simp, by simp, (hs _ (by omega) (by omega)).trans (by rw [hm0]; exact mk), ⟨es, ck, (ho _ (by omega)).trans mm2, hes'⟩, (hs _ (by omega) (by omega)).trans mb, (ho _ (by omega)).trans mk9, ⟨id, off, cp, cells, i1, by omega, fun h => h, i3, .inl i2, (hs _ (by omega) (by omega)).trans (by rw [v4, hN]; rfl), (hs _ (by omega) (by omega)).trans i4, hQ⟩, fun b hb => hgood b (List.mem_cons_of_mem _ (List.mem_append_right _ hb)), (List.nodup_cons.1 hnd).2⟩
  · rintro i n3 O m3 z hz hn3 hOn hI kr
    rw [List.getElem?_map, Option.map_eq_some_iff] at hz
    obtain ⟨⟨st, x0⟩, hx0, rfl⟩ := hz
    obtain ⟨⟨q1, q2, q3, q4⟩, c2, c3, c4, c5, c6, c7, c8, ⟨es2, ck2, c9, d0⟩, d1, d2, ⟨id2, off2, cp2, cells2, g1, g2, g3, g4, g5, g6, g7, gQ⟩, d3, dn⟩ := (show _ from hI)
    repeat (first | (with_reducible first | refine AWi.seqK fun _ => ?_ | refine AWi.blockK fun _ => ?_ | refine KI.go ?_) | ((first | refine AWi.region tabOk ?_ | refine AWi.condK fun _ _ => ?_); simp [-getElem?_pos, z0, z1, z2, putAll, strkV]) | ((first | refine AWi.ret ?_ | refine AWi.skip ?_ | refine AWi.exit ?_); try simp only [thenP]) | (with_reducible refine BB.go ?_; simp only [blockP, thenP, reduceIte]))
    refine RB2.go (by omega) (fun j hj => by simp [show ¬ j = n3 + 1 by omega]) fun rc hrc qq => ?_
    obtain ⟨hst6, hgx⟩ := onwX_good hl hn6 hga hx0
    have hsti : (st : Int) < 6 := by omega
    have hst5 : st ≤ 5 := by omega
    have r1 : ∀ d : Nat, ¬ n = nb + d := fun d => by omega
    have r2 : ∀ d : Nat, ¬ n = n3 + d := fun d => by omega
    have r3 : ∀ d : Nat, ¬ n1 = nb + d := fun d => by omega
    have r4 : ∀ d : Nat, ¬ n1 = n3 + d := fun d => by omega
    have r5 : ∀ d : Nat, ¬ nb = n3 + d := fun d => by omega
    have r6 : ¬ n = n3 := by omega
    have r7 : ¬ n1 = n3 := by omega
    have r8 : ¬ nb = n3 := by omega
    have r9 : ¬ n = nb := by omega
    have r10 : ¬ n1 = nb := by omega
    have r11 : ¬ n1 + 1 + 1 + 1 + 1 + 1 + 1 + 1 + 1 = nb + 1 + 1 + 1 + 1 + 1 + 1 := by omega
    have r12 : ¬ n1 + 1 + 1 + 1 + 1 + 1 + 1 + 1 + 1 = n3 + 1 := by omega
    have r13 : ¬ n1 + 2 = nb := by omega
    have r14 : ¬ n1 + 7 = n3 := by omega
    have r15 : ¬ n3 + 1 = nb + 1 + 1 + 1 + 1 + 1 + 1 := by omega
    have r16 : ¬ n3 = nb + 5 := by omega
    have r17 : ¬ n + 1 + 1 = nb + 1 + 1 + 1 + 1 + 1 + 1 := by omega
    have r18 : ¬ n + 1 + 1 = n3 + 1 := by omega
    have r19 : ¬ n + 1 = n3 := by omega
    refine AWi.blockK fun _ => ?_
    refine AWi.seqK fun _ => ?_
    refine AWi.mono (Q := fun ex n4 s4 => ex = .normal ∧ n3 + 1 + 1 + 1 ≤ n4 ∧ s4.slots 5 = .ptr (n + 1 + 1) 0 0 ∧ s4.slots 6 = .ptr (n + 1 + 1 + 1 + 1) 0 0 ∧ s4.slots 7 = .ptr v 0 0 ∧ s4.slots 9 = .ptr (n1 + 1 + 1 + 1 + 1 + 1 + 1 + 1 + 1) 0 0 ∧ s4.slots 11 = .ptr (n3 + 1) 0 0 ∧ s4.mem (n3 + 1) = some (.box 24 [.d (iD x0.depth), .d (iD x0.burr)] false) ∧ s4.mem (n + 1 + 1) = some (.box 113 (markS (foundM l rs k a M (i + 1))) false) ∧ s4.mem (nb + 1 + 1 + 1 + 1 + 1 + 1) = rc ∧ ∀ j, j < n3 → ¬ j = n + 1 + 1 → ¬ j = nb + 1 + 1 + 1 + 1 + 1 + 1 → s4.mem j = m3 j) ?_ ?_
    · have hfm := foundM_next M hx0
      by_cases hk1 : k = 1
      · have hki : (k : Int) = 1 := by omega
        rw [if_pos hk1] at hfm
        rw [hfm]
        repeat (first | (with_reducible first | refine AWi.seqK fun _ => ?_ | refine AWi.blockK fun _ => ?_ | refine KI.go ?_) | ((first | refine AWi.region tabOk ?_ | refine AWi.condK fun _ _ => ?_); simp [-getElem?_pos, z0, z1, z2, t5, t6, t7, t9, d2, hki, c8, hsti, hst5, r1, r2, r3, r4, r5, r6, r7, r8, r9, r10, r11, r12, r13, r14, r15, r16, r17, r18, r19]) | ((first | refine AWi.ret ?_ | refine AWi.skip ?_ | refine AWi.exit ?_); try simp only [thenP]) | (with_reducible refine BB.go ?_; simp only [blockP, thenP, reduceIte]))
        have hput := markS_put (foundM l rs k a M i) hst6
        simp only [bD] at hput
        refine ⟨by omega, ?_, fun h => by omega, fun j h1 h2 h3 => by simp [h2, h3, show ¬ j = n3 + 1 by omega]⟩
        rw [hput]
        congr 1
        funext t
        by_cases e : t = st <;> simp [e]
      · have hki : ¬ (k : Int) = 1 := by omega
        rw [if_neg hk1] at hfm
        rw [hfm]
        repeat (first | (with_reducible first | refine AWi.seqK fun _ => ?_ | refine AWi.blockK fun _ => ?_ | refine KI.go ?_) | ((first | refine AWi.region tabOk ?_ | refine AWi.condK fun _ _ => ?_); simp [-getElem?_pos, z0, z1, z2, t5, t6, t7, t9, d2, hki, c8, hsti, hst5, r1, r2, r3, r4, r5, r6, r7, r8, r9, r10, r11, r12, r13, r14, r15, r16, r17, r18, r19]) | ((first | refine AWi.ret ?_ | refine AWi.skip ?_ | refine AWi.exit ?_); try simp only [thenP]) | (with_reducible refine BB.go ?_; simp only [blockP, thenP, reduceIte]))
        refine ⟨trivial, by omega, by simp [t5], by simp [t6], by simp [t7], by simp [t9], by simp, by simp [r15, r16], by simp [r17, r18, r1, r19, c8], by simp, fun j h1 h2 h3 => by simp [h3, show ¬ j = n3 + 1 by omega]⟩
    rintro ex n4 s4 ⟨rfl, hn4, u5, u6, u7, u9, u11, me4, mk4, mr4, low4⟩
    try simp only [thenP]
    repeat (first | (with_reducible first | refine AWi.seqK fun _ => ?_ | refine AWi.blockK fun _ => ?_ | refine KI.go ?_) | (refine AWi.condK fun _ _ => ?_; simp [-getElem?_pos, z0, z1, z2, z0]) | ((first | refine AWi.ret ?_ | refine AWi.skip ?_ | refine AWi.exit ?_); try simp only [thenP]) | (with_reducible refine BB.go ?_; simp only [blockP, thenP, reduceIte]))
    have hmp4 : s4.mem (n + 1 + 1 + 1) = some (mapB mpI es2 ck2) := (low4 _ (by omega) (by omega) (by omega)).trans c9
    have hmb4 : s4.mem (n + 1 + 1 + 1 + 1) = some (.box 114 [.mp (n + 1 + 1 + 1)] false) := (low4 _ (by omega) (by omega) (by omega)).trans d1
    have hlf4 : s4.mem (n1 + 1 + 1 + 1 + 1 + 1 + 1 + 1 + 1) = some (.box 3 [.d (iD (k : Int))] false) := (low4 _ (by omega) (by omega) (by omega)).trans d2
    obtain ⟨lv, hlv⟩ := d0.waits mpI x0
    obtain ⟨wb, hwb⟩ : ∃ wb, wb = decide (x0 ∈ A ++ foundQ l rs k a A B i) := ⟨_, rfl⟩
    rw [← hwb] at hlv
    refine AWi.regionS ?_
    refine ExecS.plain tabOk (out := { res := .mp (n + 1 + 1 + 1) }) rfl rfl (by simp [-getElem?_pos, z0, z1, z2, u6, hmb4]) ?_
    refine ExecS.plain tabOk (out := { res := .agg (heS x0) }) rfl rfl (by simp [-getElem?_pos, z0, z1, z2, putS, heS, u11, me4]) ?_
    refine ExecS.lookup mtOk (id := n + 1 + 1 + 1) (clock := ck2) (es := es2) (kv := .agg (heS x0)) (l := heK x0) rfl rfl mpI_of (by simp [-getElem?_pos, z0, z1, z2, putS]) (by simp [-getElem?_pos, z0, z1, z2, putS, hmp4]) (by simp [-getElem?_pos, z0, z1, z2, putS]) rfl d0.lens ?_
    rw [hlv]
    refine ExecS.plain tabOk (out := { res := .tup [lv, .d (.val (.bool wb))] }) rfl rfl (by simp [-getElem?_pos, z0, z1, z2, putS]) ?_
    refine ExecS.plain tabOk (out := { res := lv }) rfl rfl (by simp [-getElem?_pos, z0, z1, z2, putS]) ?_
    refine ExecS.plain tabOk (out := { res := .d (.val (.bool wb)) }) rfl rfl (by simp [-getElem?_pos, z0, z1, z2, putS]) ?_
    refine ExecS.plain tabOk (out := { res := lv }) rfl rfl (by simp [-getElem?_pos, z0, z1, z2, putS]) ?_
    refine ExecS.plain tabOk (out := { res := .d (.val (.bool wb)) }) rfl rfl (by simp [-getElem?_pos, z0, z1, z2, putS]) ?_
    simp [putS, ExecS]
    try simp only [thenP]
    repeat (first | (with_reducible first | refine AWi.seqK fun _ => ?_ | refine AWi.blockK fun _ => ?_ | refine KI.go ?_) | (refine AWi.condK fun _ _ => ?_; simp [-getElem?_pos, z0, z1, z2, z0]) | ((first | refine AWi.ret ?_ | refine AWi.skip ?_ | refine AWi.exit ?_); try simp only [thenP]) | (with_reducible refine BB.go ?_; simp only [blockP, thenP, reduceIte]))
    have hqn := foundQ_next A B hx0
    have low5 : ∀ j, j < n3 → ¬ j = n + 1 + 1 → ¬ j = nb + 1 + 1 + 1 + 1 + 1 + 1 → s4.mem j = m3 j := low4
    rcases wb with _ | _
    · have hnw : x0 ∉ A ++ foundQ l rs k a A B i := of_decide_eq_false hwb.symm
      have hqi : foundQ l rs k a A B (i + 1) = foundQ l rs k a A B i ++ [x0] := by rw [hqn, addQ, if_neg hnw]
      have w1 : IntKind.i64.wrap ((k : Int) - 1) = (k : Int) - 1 := wrap64_in (by omega)
      refine AWi.region tabOk ?_
      simp [-getElem?_pos, z0, z1, z2]
      repeat (first | (with_reducible first | refine AWi.seqK fun _ => ?_ | refine AWi.blockK fun _ => ?_ | refine KI.go ?_) | (refine AWi.condK fun _ _ => ?_; simp [-getElem?_pos, z0, z1, z2, z0]) | ((first | refine AWi.ret ?_ | refine AWi.skip ?_ | refine AWi.exit ?_); try simp only [thenP]) | (with_reducible refine BB.go ?_; simp only [blockP, thenP, reduceIte]))
      refine AWi.regionS ?_
      refine ExecS.plain tabOk (out := { res := .mp (n + 1 + 1 + 1) }) rfl rfl (by simp [-getElem?_pos, z0, z1, z2, u6, hmb4]) ?_
      refine ExecS.plain tabOk (out := { res := .agg (heS x0) }) rfl rfl (by simp [-getElem?_pos, z0, z1, z2, putS, heS, u11, me4]) ?_
      refine ExecS.plain tabOk (out := { res := .d (iD (k : Int)) }) rfl rfl (by simp [-getElem?_pos, z0, z1, z2, putS, u9, hlf4]) ?_
      refine ExecS.plain tabOk (out := { res := .d (iD ((k : Int) - 1)) }) rfl rfl (by simp [-getElem?_pos, z0, z1, z2, putS, w1]) ?_
      refine ExecS.insert mtOk (.inl rfl) (id := n + 1 + 1 + 1) (clock := ck2) (es := es2) (kv := .agg (heS x0)) (vv := .d (iD ((k : Int) - 1))) (l := heK x0) rfl mpI_of (by simp [-getElem?_pos, z0, z1, z2, putS]) (by simp [-getElem?_pos, z0, z1, z2, putS, hmp4]) (by simp [-getElem?_pos, z0, z1, z2, putS]) rfl d0.lens (d0.no hnw) (by simp [-getElem?_pos, z0, z1, z2, putS]) ?_
      simp [putS, ExecS]
      try simp only [thenP]
      repeat (first | (with_reducible first | refine AWi.seqK fun _ => ?_ | refine AWi.blockK fun _ => ?_ | refine KI.go ?_) | (refine AWi.condK fun _ _ => ?_; simp [-getElem?_pos, z0, z1, z2, z0]) | ((first | refine AWi.ret ?_ | refine AWi.skip ?_ | refine AWi.exit ?_); try simp only [thenP]) | (with_reducible refine BB.go ?_; simp only [blockP, thenP, reduceIte]))
      obtain ⟨N2, hN2⟩ : ∃ N2, N2 = (a :: A ++ foundQ l rs k a A B i).length := ⟨_, rfl⟩
      have hQle2 := gQ.le
      have hroom2 := gQ.room
      rw [← hN2] at g6 hQle2
      have hv4 : s4.mem v = some (.box 99 [.sl id2 off2 N2 (some cp2)] false) := (low4 _ (by omega) (by omega) (by omega)).trans g6
      have hi4 : s4.mem id2 = some (.box 24 cells2 false) := (low4 _ (by omega) (by omega) (fun e => g3 (.inr e))).trans g7
      have z1 : ¬ v = n + 1 + 1 + 1 := by omega
      have z2 : ¬ n3 = n + 1 + 1 := by omega
      have z3 : ¬ id2 = n + 1 + 1 + 1 := by omega
      generalize hn5 : n4 + 1 + 1 + 1 + 1 + 1 + 1 + 1 + 1 + 1 + 1 + 1 + 1 + 1 = n5
      refine AWi.regionS ?_
      refine ExecS.plain tabOk (out := { res := .sl id2 off2 N2 (some cp2) }) rfl rfl (by simp [-getElem?_pos, z0, z1, z2, u7, hv4, z1]) ?_
      refine ExecS.plain tabOk (out := { res := .agg (heS x0) }) rfl rfl (by simp [-getElem?_pos, z0, z1, z2, putS, heS, u11, me4, z2]) ?_
      refine ExecS.plain tabOk (out := { res := .own (n5 + 1 + 1) 1 2, nw := some (.row 24 2 [heRow x0] false) }) rfl rfl (by simp [-getElem?_pos, z0, z1, z2, putS, heS]) ?_
      have hnd5 := waits_le dn fun b hb => by
        rcases List.mem_append.1 hb with hb | hb
        · exact hgood b (List.mem_cons_of_mem _ (List.mem_append_left _ hb))
        · exact d3 b hb
      have hN5 : N2 ≤ 708 := by rw [hN2]; simp only [List.cons_append, List.length_cons]; omega
      have z4 : ¬ n5 + 1 + 1 = id2 := by omega
      have z5 : ¬ id2 = n5 + 1 + 1 := by omega
      have z6 : ¬ v = id2 := by omega
      have z7 : ¬ v = n5 + 1 + 1 := by omega
      have z8 : ¬ v = n5 + 1 + 1 + 1 := by omega
      refine ExecS.appendQ tabOk (id := id2) (off := off2) (k := N2) (cp := cp2) (cells := cells2) (yv := .own (n5 + 1 + 1) 1 2) (row := heRow x0) rfl rfl rfl rfl rfl (TB99) rfl (TB24) (by simp [-getElem?_pos, z0, z1, z2, putS]) (by simp [-getElem?_pos, z0, z1, z2, putS, z3, z5, hi4]) (by simpa using hroom2) hQle2 (by simp [-getElem?_pos, z0, z1, z2, putS]) (by simp [-getElem?_pos, z0, z1, z2, putS, srcRows]) (fitsB_small (by omega) (by simp)) ?_
      rintro n6 s6' ⟨rfl, ⟨hrm, rfl⟩ | ⟨cp', hcp', rfl⟩⟩
      · refine ExecS.plain tabOk (out := { res := .und, wr := some (v, some (.box 99 [.sl id2 off2 (N2 + 1) (some cp2)] false)) }) rfl rfl (by simp [-getElem?_pos, z0, z1, z2, putS, u7, hv4, z1, z6, z7, z8]) ?_
        simp [putS, ExecS]
        try simp only [thenP]
        repeat (first | (with_reducible first | refine AWi.seqK fun _ => ?_ | refine AWi.blockK fun _ => ?_ | refine KI.go ?_) | (refine AWi.condK fun _ _ => ?_; simp [-getElem?_pos, z0, z1, z2, z0]) | ((first | refine AWi.ret ?_ | refine AWi.skip ?_ | refine AWi.exit ?_); try simp only [thenP]) | (with_reducible refine BB.go ?_; simp only [blockP, thenP, reduceIte]))
        have hlen : (a :: A ++ foundQ l rs k a A B (i + 1)).length = N2 + 1 := by rw [hqi, hN2]; simp only [List.length_append, List.length_cons, List.length_nil]; omega
        refine RE2.normal (by omega) (fun j hj => ?_) ⟨⟨q1, q2, q3, q4⟩, by omega, c3, fun j hj => ?_, ?_, ?_, ?_, ?_, ⟨es2 ++ [(heK x0, .d (iD ((k : Int) - 1)), ck2)], ck2 + 1, ?_, by rw [hqi]; exact d0.add x0 ck2⟩, ?_, ?_, ⟨id2, off2, cp2, splice cells2 (off2 + N2 * 2) (heS x0), g1, by omega, g3, g4, g5, ?_, ?_, ?_⟩, ?_, by rw [hqn]; exact addQ_nd dn⟩
        · have h8 := hOn j hj
          have h9 := c3 j hj
          have h10 : ¬ j = id2 := fun e => g3 (e ▸ hj)
          by_cases e : j = nb + 1 + 1 + 1 + 1 + 1 + 1
          · subst e
            simp [mr4, h10, show ¬ nb + 1 + 1 + 1 + 1 + 1 + 1 = v by omega, show ¬ nb + 1 + 1 + 1 + 1 + 1 + 1 = n5 + 1 + 1 by omega, show ¬ nb + 1 + 1 + 1 + 1 + 1 + 1 = n + 1 + 1 + 1 by omega, show ¬ nb + 4 = n5 by omega, show ¬ nb + 3 = n by omega, show ¬ nb + 3 = n5 by omega, show ¬ nb + 1 + 1 + 1 = n by omega, show ¬ nb + 1 + 1 + 1 + 1 = n5 by omega, show ¬ nb + 1 + 1 + 1 = n5 by omega]
          · simp [low4 j h8 (by omega) e, e, h10, show ¬ j = n3 + 1 by omega, show ¬ j = v by omega, show ¬ j = n5 + 1 + 1 by omega, show ¬ j = n + 1 + 1 + 1 by omega]
        · simp [show ¬ j = id2 by omega, show ¬ j = v by omega, show ¬ j = n5 + 1 + 1 by omega, show ¬ j = n + 1 + 1 + 1 by omega]
          exact (low4 j (by omega) (by omega) (by omega)).trans (c4 j hj)
        · refine Eq.trans ?_ ((low4 nb (by omega) (by omega) (by omega)).trans c5)
          exact mem_far4 (by omega) (by omega) (by omega) (by omega)
        · refine Eq.trans ?_ ((low4 (nb + 1) (by omega) (by omega) (by omega)).trans c6)
          exact mem_far4 (by omega) (by omega) (by omega) (by omega)
        · refine Eq.trans ?_ ((low4 (nb + 1 + 1) (by omega) (by omega) (by omega)).trans c7)
          exact mem_far4 (by omega) (by omega) (by omega) (by omega)
        · refine Eq.trans ?_ mk4
          exact mem_far4 (by omega) (by omega) (by omega) (by omega)
        · exact (mem_far3 (by omega) (by omega) (by omega)).trans (if_pos rfl)
        · refine Eq.trans ?_ hmb4
          exact mem_far4 (by omega) (by omega) (by omega) (by omega)
        · refine Eq.trans ?_ hlf4
          exact mem_far4 (by omega) (by omega) (by omega) (by omega)
        · rw [hlen]
          exact if_pos rfl
        · refine (if_neg (by omega)).trans ((if_pos rfl).trans ?_)
          first | rfl | simp [splice, heS]
        · rw [hqi, ← List.append_assoc]
          rw [hN2] at hrm ⊢
          exact gQ.room1 x0 hrm
        · rw [hqi]
          intro b hb
          rcases List.mem_append.1 hb with hb | hb
          · exact d3 b hb
          · simp only [List.mem_cons, List.not_mem_nil, or_false] at hb
            rw [hb]
            exact hgx
      · refine ExecS.plain tabOk (out := { res := .und, wr := some (v, some (.box 99 [.sl (n5 + 1 + 1 + 1) 0 (N2 + 1) (some cp')] false)) }) rfl rfl (by simp [-getElem?_pos, z0, z1, z2, putS, u7, hv4, z1, z6, z7, z8]) ?_
        simp [putS, ExecS]
        try simp only [thenP]
        repeat (first | (with_reducible first | refine AWi.seqK fun _ => ?_ | refine AWi.blockK fun _ => ?_ | refine KI.go ?_) | (refine AWi.condK fun _ _ => ?_; simp [-getElem?_pos, z0, z1, z2, z0]) | ((first | refine AWi.ret ?_ | refine AWi.skip ?_ | refine AWi.exit ?_); try simp only [thenP]) | (with_reducible refine BB.go ?_; simp only [blockP, thenP, reduceIte]))
        have hlen : (a :: A ++ foundQ l rs k a A B (i + 1)).length = N2 + 1 := by rw [hqi, hN2]; simp only [List.length_append, List.length_cons, List.length_nil]; omega
        refine RE2.normal (by omega) (fun j hj => ?_) ⟨⟨q1, q2, q3, q4⟩, by omega, c3, fun j hj => ?_, ?_, ?_, ?_, ?_, ⟨es2 ++ [(heK x0, .d (iD ((k : Int) - 1)), ck2)], ck2 + 1, ?_, by rw [hqi]; exact d0.add x0 ck2⟩, ?_, ?_, ⟨n5 + 1 + 1 + 1, 0, cp', (cells2.drop off2).take (N2 * 2) ++ heS x0 ++ zerosC ⟨2, 16, [.int .i64 0, .int .i64 0], .struct [(0, 3), (1, 3)], [.i64, .i64]⟩ ((cp' - (N2 + 1)) * 2), by omega, by omega, fun h => by have := hOn _ h; omega, by omega, .inr (by omega), ?_, ?_, ?_⟩, ?_, by rw [hqn]; exact addQ_nd dn⟩
        · have h8 := hOn j hj
          have h9 := c3 j hj
          have h10 : ¬ j = n5 + 1 + 1 + 1 := by omega
          by_cases e : j = nb + 1 + 1 + 1 + 1 + 1 + 1
          · subst e
            simp [mr4, h10, show ¬ nb + 1 + 1 + 1 + 1 + 1 + 1 = v by omega, show ¬ nb + 1 + 1 + 1 + 1 + 1 + 1 = n5 + 1 + 1 by omega, show ¬ nb + 1 + 1 + 1 + 1 + 1 + 1 = n + 1 + 1 + 1 by omega, show ¬ nb + 4 = n5 by omega, show ¬ nb + 3 = n by omega, show ¬ nb + 3 = n5 by omega, show ¬ nb + 1 + 1 + 1 = n by omega, show ¬ nb + 1 + 1 + 1 + 1 = n5 by omega, show ¬ nb + 1 + 1 + 1 = n5 by omega]
          · simp [low4 j h8 (by omega) e, e, h10, show ¬ j = n3 + 1 by omega, show ¬ j = v by omega, show ¬ j = n5 + 1 + 1 by omega, show ¬ j = n + 1 + 1 + 1 by omega]
        · simp [show ¬ j = n5 + 1 + 1 + 1 by omega, show ¬ j = v by omega, show ¬ j = n5 + 1 + 1 by omega, show ¬ j = n + 1 + 1 + 1 by omega]
          exact (low4 j (by omega) (by omega) (by omega)).trans (c4 j hj)
        · refine Eq.trans ?_ ((low4 nb (by omega) (by omega) (by omega)).trans c5)
          exact mem_far4 (by omega) (by omega) (by omega) (by omega)
        · refine Eq.trans ?_ ((low4 (nb + 1) (by omega) (by omega) (by omega)).trans c6)
          exact mem_far4 (by omega) (by omega) (by omega) (by omega)
        · refine Eq.trans ?_ ((low4 (nb + 1 + 1) (by omega) (by omega) (by omega)).trans c7)
          exact mem_far4 (by omega) (by omega) (by omega) (by omega)
        · refine Eq.trans ?_ mk4
          exact mem_far4 (by omega) (by omega) (by omega) (by omega)
        · exact (mem_far3 (by omega) (by omega) (by omega)).trans (if_pos rfl)
        · refine Eq.trans ?_ hmb4
          exact mem_far4 (by omega) (by omega) (by omega) (by omega)
        · refine Eq.trans ?_ hlf4
          exact mem_far4 (by omega) (by omega) (by omega) (by omega)
        · rw [hlen]
          exact if_pos rfl
        · refine (if_neg (by omega)).trans ((if_pos rfl).trans ?_)
          first | rfl | simp [splice, heS]
        · rw [hqi, ← List.append_assoc]
          rw [hN2] at hcp' ⊢
          exact gQ.grow x0 cp' hcp' _ (by rw [zerosC_len])
        · rw [hqi]
          intro b hb
          rcases List.mem_append.1 hb with hb | hb
          · exact d3 b hb
          · simp only [List.mem_cons, List.not_mem_nil, or_false] at hb
            rw [hb]
            exact hgx
    · have hnw : x0 ∈ A ++ foundQ l rs k a A B i := of_decide_eq_true hwb.symm
      have hqi : foundQ l rs k a A B (i + 1) = foundQ l rs k a A B i := by rw [hqn, addQ, if_pos hnw]
      refine AWi.region tabOk ?_
      simp [-getElem?_pos, z0, z1, z2]
      repeat (first | (with_reducible first | refine AWi.seqK fun _ => ?_ | refine AWi.blockK fun _ => ?_ | refine KI.go ?_) | (refine AWi.condK fun _ _ => ?_; simp [-getElem?_pos, z0, z1, z2, z0]) | ((first | refine AWi.ret ?_ | refine AWi.skip ?_ | refine AWi.exit ?_); try simp only [thenP]) | (with_reducible refine BB.go ?_; simp only [blockP, thenP, reduceIte]))
      refine RE2.normal (by omega) (fun j hj => ?_) ⟨⟨q1, q2, q3, q4⟩, by omega, c3, fun j hj => (low4 j (by omega) (by omega) (by omega)).trans (c4 j hj), (low4 _ (by omega) (by omega) (by omega)).trans c5, (low4 _ (by omega) (by omega) (by omega)).trans c6, (low4 _ (by omega) (by omega) (by omega)).trans c7, mk4, ⟨es2, ck2, hmp4, by rw [hqi]; exact d0⟩, hmb4, hlf4, ⟨id2, off2, cp2, cells2, g1, by omega, g3, g4, g5, (low4 _ (by omega) (by omega) (by omega)).trans (by rw [hqi]; exact g6), (low4 _ (by omega) (by omega) (fun e => g3 (.inr e))).trans g7, by rw [hqi]; exact gQ⟩, by rw [hqi]; exact d3, by rw [hqi]; exact dn⟩
      have h8 := hOn j hj
      have h9 := c3 j hj
      by_cases e : j = nb + 1 + 1 + 1 + 1 + 1 + 1
      · subst e
        simp [mr4]
      · simp [low4 j h8 (by omega) e, e, show ¬ j = n3 + 1 by omega]
  · rintro n' O m' hn' hO ⟨-, c2, c3, c4, c5, c6, c7, c8, ⟨es2, ck2, c9, d0⟩, d1, d2, ⟨id2, off2, cp2, cells2, g1, g2, g3, g4, g5, g6, g7, gQ⟩, d3, dn⟩
    have hfq : foundQ l rs k a A B (List.map strkV (onwX l rs a k)).length = (onwX l rs a k).foldl (fun B p => addQ A B p.2) B := by rw [foundQ, List.length_map, List.take_length]
    have hfm : foundM l rs k a M (List.map strkV (onwX l rs a k)).length = fun st => M st || (decide (k = 1) && decide (st ∈ (onwX l rs a k).map (·.1))) := by
      funext st
      rw [foundM, List.length_map, List.take_length]
    rw [hfm] at c8
    rw [hfq] at d0 g6 gQ d3 dn
    obtain ⟨B2, hB2⟩ : ∃ B2, B2 = (onwX l rs a k).foldl (fun B p => addQ A B p.2) B := ⟨_, rfl⟩
    rw [← hB2] at d0 g6 gQ d3 dn
    obtain ⟨N2, hN2⟩ : ∃ N2, N2 = (a :: A ++ B2).length := ⟨_, rfl⟩
    have hN3 : N2 = (A ++ B2).length + 1 := by rw [hN2]; rfl
    have hQle2 := gQ.le
    rw [← hN2] at g6 hQle2
    repeat (first | (with_reducible first | refine AWi.seqK fun _ => ?_ | refine AWi.blockK fun _ => ?_ | refine KI.go ?_) | (refine AWi.condK fun _ _ => ?_; simp [-getElem?_pos, z0, z1, z2, z0]) | ((first | refine AWi.ret ?_ | refine AWi.skip ?_ | refine AWi.exit ?_); try simp only [thenP]) | (with_reducible refine BB.go ?_; simp only [blockP, thenP, reduceIte]))
    refine AWi.region tabOk ?_
    simp [-getElem?_pos, z0, z1, z2, t7, g6]
    repeat (first | (with_reducible first | refine AWi.seqK fun _ => ?_ | refine AWi.blockK fun _ => ?_ | refine KI.go ?_) | (refine AWi.condK fun _ _ => ?_; simp [-getElem?_pos, z0, z1, z2, z0]) | ((first | refine AWi.ret ?_ | refine AWi.skip ?_ | refine AWi.exit ?_); try simp only [thenP]) | (with_reducible refine BB.go ?_; simp only [blockP, thenP, reduceIte]))
    refine AWi.region tabOk ?_
    simp [-getElem?_pos, z0, z1, z2]
    repeat (first | (with_reducible first | refine AWi.seqK fun _ => ?_ | refine AWi.blockK fun _ => ?_ | refine KI.go ?_) | (refine AWi.condK fun _ _ => ?_; simp [-getElem?_pos, z0, z1, z2, z0]) | ((first | refine AWi.ret ?_ | refine AWi.skip ?_ | refine AWi.exit ?_); try simp only [thenP]) | (with_reducible refine BB.go ?_; simp only [blockP, thenP, reduceIte]))
    refine AWi.regionS ?_
    refine ExecS.plain tabOk (out := { res := .sl id2 off2 N2 (some cp2) }) rfl rfl (by simp [-getElem?_pos, z0, z1, z2]) ?_
    refine ExecS.rest tabOk (kd := .i64) (id := id2) (off := off2) (k := N2) (cp := cp2) (l := 1) rfl rfl (TB99) rfl (TB24) (by simp [-getElem?_pos, z0, z1, z2, putS]) (by simp [-getElem?_pos, z0, z1, z2]) (by omega) hQle2 ?_
    refine ExecS.plain tabOk (out := { res := .und, wr := some (n' + 1, some (.box 99 [.sl id2 (if cp2 = 1 then off2 else off2 + 1 * 2) (N2 - 1) (some (cp2 - 1))] false)) }) rfl rfl (by simp [-getElem?_pos, z0, z1, z2, putS]) ?_
    simp [putS, ExecS]
    try simp only [thenP]
    have e1 : ∀ j, j < n' → ¬ j = n' + 1 := fun j hj => by omega
    refine LI.go (k, A, B2, fun st => M st || (decide (k = 1) && decide (st ∈ (onwX l rs a k).map (·.1)))) ⟨by omega, by simp [t0], by simp [t5], by simp [t6], ⟨n' + 1, _, by omega, by omega, by simp, by simp; rfl, ⟨id2, _, cp2 - 1, cells2, g1, by omega, by omega, ?_, by simp [show ¬ id2 = n' + 1 by omega, g7], gQ.tail⟩⟩, by simp [show ¬ n + 1 = n' by omega, c8], ⟨es2, ck2, by simp [show ¬ n + 1 + 1 = n' by omega, c9], d0⟩, by simp [show ¬ n + 1 + 1 + 1 = n' by omega, d1], fun j hj => by simp [e1 _ (show j < n' by omega), c4 j hj], hk, ?_, ?_, fun st => ?_, dn⟩ ?_
    · rw [show N2 - 1 = (A ++ B2).length by omega, Nat.one_mul]
    · intro h0
      have hB0 := hb0 h0
      subst h0
      subst hB0
      rw [hB2]
      rfl
    · intro b hb
      rcases List.mem_append.1 hb with hb | hb
      · exact hgood b (List.mem_cons_of_mem _ (List.mem_append_left _ hb))
      · exact d3 b hb
    · rw [← hfin st, restG_one, ← hB2]
      simp only [Bool.or_eq_true, Bool.and_eq_true, decide_eq_true_eq]
      by_cases hk1 : k = 1
      · subst hk1
        rw [or_assoc]
      · simp [hk1]
    · show muG l rs k A B2 < muG l rs k0 A0 B0
      rw [← hmu, muG_one, ← hB2]
      omega
  · rintro cd n' O m' hn' hO h
    exact h.elim
end Go.Proofs.Ytgiomfamlbmpcaa.Eng

noncomputable section
namespace Go.Proofs.Ytgiomfamlbmpcaa.Eng
open Go.RowKit
set_option maxRecDepth 100000 in
set_option maxHeartbeats 8000000 in
theorem ends_x (l : List HS) (e g : HE) (n : Nat) (m : Mem) :
    CWp Try.prog 38 [.d (boxD l), .d (edgD e), .d (edgD g)] n m fun y _ m' => (∀ j, j < n → m' j = m j) ∧ toD4 y = some (.tup [intL (endsO l e g), iD (reachE l g e)]) := by
  refine cwpK tabOk Try.func38 rfl rfl (show 3 ≤ _ by decide) rfl fun _ => ?_; simp only [Try.ntmps38]
  repeat (first | (with_reducible first | refine AWi.seqK fun _ => ?_ | refine AWi.blockK fun _ => ?_ | refine KI.go ?_) | ((first | refine AWi.region tabOk ?_ | refine AWi.condK fun _ _ => ?_); simp [-getElem?_pos, z0, z1, z2, z0]) | ((first | refine AWi.ret ?_ | refine AWi.skip ?_ | refine AWi.exit ?_); try simp only [thenP]) | (with_reducible refine BB.go ?_; simp only [blockP, thenP, reduceIte]))
  refine ExecI.callC (checkReach_w l e g _ _) rfl (by simp [calleeS, evList]) ?_
  rintro y n1 m1 ⟨hn1, hm1, hy⟩
  have hlow : ∀ j, j < n → m1 j = m j := fun j hj => (hm1 j (by omega)).trans (by (try dsimp only); repeat (first | rw [setMem_lt (by omega)] | rw [putN_lt (by omega)]))
  have he : m1 n = some (.box 24 [.d (iD e.depth), .d (iD e.burr)] false) := (hm1 n (by omega)).trans (by simp)
  by_cases h0 : chkErr l [e, g] = 0
  · rw [if_pos h0] at hy
    obtain ⟨hb, hes⟩ := chkOk h0
    have ge := goodE (e := e) (by simp at hes; exact hes.1)
    obtain ⟨k, hneed⟩ | hneed : (∃ k, needN l g e = some k) ∨ needN l g e = none := by
      cases needN l g e
      · exact .inr rfl
      · exact .inl ⟨_, rfl⟩
    · rw [hneed] at hy
      obtain ⟨c, rfl, hc⟩ := hy
      obtain ⟨hk1, hk2⟩ := rows_take hneed
      have hE : reachE l g e = 0 := by rw [reachE, if_pos h0, hneed]
      have hO : endsO l e g = endsL l ((rowsG l g).take k) e := by rw [endsO, if_pos h0, hneed]; simp only [endsL, hk1]
      simp [-getElem?_pos, z0, z1, z2]
      repeat (first | (with_reducible first | refine AWi.seqK fun _ => ?_ | refine AWi.blockK fun _ => ?_ | refine KI.go ?_) | ((first | refine AWi.region tabOk ?_ | refine AWi.condK fun _ _ => ?_); simp [-getElem?_pos, z0, z1, z2, he]) | ((first | refine AWi.ret ?_ | refine AWi.skip ?_ | refine AWi.exit ?_); try simp only [thenP]) | (with_reducible refine BB.go ?_; simp only [blockP, thenP, reduceIte]))
      refine ExecI.callC (ends_w l hb.all hb.n2 ((rowsG l g).take k) (by omega) e ge c n _ _ (hc.wide (by omega) (by omega))) rfl (by simp [calleeS, evList]) ?_
      rintro y n2 m2 ⟨rfl, hm2⟩
      simp [-getElem?_pos, z0, z1, z2]
      repeat (first | (with_reducible first | refine AWi.seqK fun _ => ?_ | refine AWi.blockK fun _ => ?_ | refine KI.go ?_) | ((first | refine AWi.region tabOk ?_ | refine AWi.condK fun _ _ => ?_); simp [-getElem?_pos, z0, z1, z2, z0]) | ((first | refine AWi.ret ?_ | refine AWi.skip ?_ | refine AWi.exit ?_); try simp only [thenP]) | (with_reducible refine BB.go ?_; simp only [blockP, thenP, reduceIte]))
      exact RI.ret rfl ⟨fun j hj => (hm2 j (by omega)).trans (hlow j hj), by rw [hE, hO]; rfl⟩
    · rw [hneed] at hy
      subst hy
      have hE : reachE l g e = 13 := by rw [reachE, if_pos h0, hneed]
      have hO : endsO l e g = [] := by rw [endsO, if_pos h0, hneed]
      simp [-getElem?_pos, z0, z1, z2]
      repeat (first | (with_reducible first | refine AWi.seqK fun _ => ?_ | refine AWi.blockK fun _ => ?_ | refine KI.go ?_) | ((first | refine AWi.region tabOk ?_ | refine AWi.condK fun _ _ => ?_); simp [-getElem?_pos, z0, z1, z2, z0]) | ((first | refine AWi.ret ?_ | refine AWi.skip ?_ | refine AWi.exit ?_); try simp only [thenP]) | (with_reducible refine BB.go ?_; simp only [blockP, thenP, reduceIte]))
      exact RI.ret rfl ⟨hlow, by rw [hE, hO]; rfl⟩
  · rw [if_neg h0] at hy
    subst hy
    have hE : reachE l g e = chkErr l [e, g] := if_neg h0
    have hO : endsO l e g = [] := if_neg h0
    simp [-getElem?_pos, z0, z1, z2]
    repeat (first | (with_reducible first | refine AWi.seqK fun _ => ?_ | refine AWi.blockK fun _ => ?_ | refine KI.go ?_) | ((first | refine AWi.region tabOk ?_ | refine AWi.condK fun _ _ => ?_); simp [-getElem?_pos, z0, z1, z2, h0]) | ((first | refine AWi.ret ?_ | refine AWi.skip ?_ | refine AWi.exit ?_); try simp only [thenP]) | (with_reducible refine BB.go ?_; simp only [blockP, thenP, reduceIte]))
    exact RI.ret rfl ⟨hlow, by rw [hE, hO]; rfl⟩
theorem ends_c (l : List HS) (e g : HE) : ACall Try.prog 38 [boxD l, edgD e, edgD g] (.tup [intL (endsO l e g), iD (reachE l g e)]) :=
  ACall.ofR (RCall.of4 (n0 := 0) fun n _ => (ends_x l e g n _).mono fun _ _ _ h => ⟨h.2, h.1⟩)
end Go.Proofs.Ytgiomfamlbmpcaa.Eng

namespace Go.Proofs.Ytgiomfamlbmpcaa.Eng
variable {P : Program}
theorem RCall.ofLin {f : FuncId} {svs : List SV} {ds : List Dat} {e : Dat} {m : Mem} {n0 : Nat} (hlen : ds.length ≤ 1000000) (hone : ∀ d ∈ ds, d.one = true) (h : ∀ n, n0 ≤ n → CWp P f svs n m fun y _ m' => (∃ id ty, n ≤ id ∧ y = .tup [.lin id ds.length, .d e] ∧ m' id = some (.box ty (ds.map .d) false)) ∧ ∀ j, j < n → m' j = m j) : RCall P f svs (.tup [.list (ds.map fun d => [d]), e]) m :=
  ⟨(h n0 (Nat.le_refl _)).callable, fun W0 R0 D N E w vs hD M h1 h2 => by
    refine ((h (max N n0) (Nat.le_max_right _ _)).calls W0 R0 E w vs (ms_dom M fun i hi => Nat.lt_of_lt_of_le (hD i hi) (Nat.le_max_left _ _)) h1 h2).mono ?_
    rintro ex w' ⟨v, E', n', m', y, rfl, M', hE, hw, hv, ⟨id, ty, hid, rfl, hrow⟩, hm⟩
    have hin : ∀ i b, m i = some b → i < max N n0 := fun i b hi => Nat.lt_of_lt_of_le (hD i (M.dom i (M.live i b hi))) (Nat.le_max_left _ _)
    have hlt : ∀ i b, m i = some b → m' i = some b := fun i b hi => by
      rw [hm i (hin i b hi)]; exact hi
    let E2 : Env := { E' with dom := E.dom, ro := fun b => E'.ro b ∨ b = (E'.home id).blk }
    refine ⟨v, E2, rfl, ⟨M'.below, fun b hb => .inl (M'.ro0 b hb), fun b hb => ?_, fun b hb => ?_, M.dom, M.live, fun i b hi => ?_, fun i b hi => M'.base i b (hlt i b hi), fun i b hi => ?_, fun i j b c hi hj hn => M'.inj i j b c (hlt i b hi) (hlt j c hj) hn⟩, ⟨fun b hb => .inl (hE.ro b hb), fun _ h => h, hE.home⟩, hw, ?_⟩
    · rcases hb with hb | rfl
      · exact M'.ro1 b hb
      · exact .inr fun hu => M'.base id _ hrow hu
    · rcases hb with hb | rfl
      · exact M'.rlt b hb
      · exact (M'.mem id _ hrow).lt
    · exact Holds.restrict (E := E) (E' := E') (E'' := E2) (w := w) (w' := w') (h0 := E.home i) (h := E'.home i) (fun _ h => .inl h) (fun _ h => h) (fun _ _ => rfl) (M'.mem i b (hlt i b hi)) (M.mem i b hi)
    · refine (M'.frz i b (hlt i b hi)).trans ⟨.inl, fun h => h.elim (fun h => h) fun e => ?_⟩
      exact absurd e (M'.inj i id b _ (hlt i b hi) hrow (by have := hin i b hi; omega))
    · cases M'.mem id _ hrow with
      | box _ _ _ cur g1 g2 g3 g4 =>
      rw [List.length_map] at g2
      cases hv with
      | tup _ us k1 k2 =>
      refine .d _ _ (.tup _ us (by rw [k1]; rfl) fun i c u hc hu => ?_)
      match i with
      | 0 =>
        simp only [List.getElem?_cons_zero, Option.some.injEq] at hc
        subst hc
        have hl := k2 0 _ u rfl hu
        cases hl with
        | lin _ _ hd hz hc =>
        have e1 : ds.length = (ds.map fun d => [d]).length := by simp
        rw [e1]
        refine .list _ _ _ (fun i _ => cur.getD i (.int .i64 0)) (by simp) (by simp [maxLen]; omega) (fun r hr c hc => ?_) (fun _ => ⟨_, 0, 1, rfl, .inr rfl, fun r hr => ?_, fun i j hi hj => ?_⟩) fun i j r c hi hj => ?_
        · obtain ⟨d, hd, rfl⟩ := List.mem_map.1 hr
          rw [List.mem_singleton] at hc
          subst hc
          exact hone _ hd
        · obtain ⟨d, hd, rfl⟩ := List.mem_map.1 hr
          rfl
        · have hi' : i < cur.size := by rw [g2]; simpa using hi
          have hj0 : j = 0 := by omega
          subst hj0
          rw [Nat.zero_add, Nat.mul_one, Nat.add_zero, World.cell?]
          simp [g1, Array.getD_eq_getD_getElem?, hi']
        · rw [List.getElem?_map, Option.map_eq_some_iff] at hi
          obtain ⟨d, hd, rfl⟩ := hi
          have hi' : i < cur.size := by rw [g2]; exact (List.getElem?_eq_some_iff.1 hd).1
          have hj0 : j = 0 := by have := (List.getElem?_eq_some_iff.1 hj).1; simp at this; exact this
          subst hj0
          simp only [List.getElem?_cons_zero, Option.some.injEq] at hj
          subst hj
          have h4 := g4 i (.d d) cur[i] (by rw [List.getElem?_map, hd]; rfl) (Array.getElem?_eq_getElem hi')
          rw [show cur.getD i (.int .i64 0) = cur[i] by simp [Array.getD_eq_getD_getElem?, hi']]
          cases h4 with
          | d _ _ h5 => exact h5.keep (ro' := E2.ro) (fun b hb => .inl hb) fun _ _ => rfl
      | 1 =>
        simp only [List.getElem?_cons_succ, List.getElem?_cons_zero, Option.some.injEq] at hc
        subst hc
        have hl := k2 1 _ u rfl hu
        cases hl with
        | d _ _ h5 => exact h5.keep (ro' := E2.ro) (fun b hb => .inl hb) fun _ _ => rfl
      | i + 2 => simp at hc⟩
end Go.Proofs.Ytgiomfamlbmpcaa.Eng

noncomputable section
namespace Go.Proofs.Ytgiomfamlbmpcaa.Eng
open Go.RowKit
def rowL (f : Nat → Int) : List Int := tab fun i => f i - 1
def rowsO (l : List HS) (e g : HE) : List (List Int) := if chkErr l [e, g] = 0 then (match needN l g e with
  | some k => ((rowsG l g).take k).map rowL
  | none => []) else []
def linS (rs : List (Nat → Int)) (k : Nat) : List SV := (List.range rs.length).map fun i => if i < k then .d (intL (rowL (rs.getD i fun _ => 0))) else .nilS
@[simp] theorem linS_len (rs : List (Nat → Int)) (k : Nat) : (linS rs k).length = rs.length := by simp [linS]
theorem linS_put {rs : List (Nat → Int)} {k : Nat} {q : Nat → Int} (h : rs[k]? = some q) : List.take k (linS rs k) ++ SV.d (intL (rowL q)) :: List.drop (k + 1) (linS rs k) = linS rs (k + 1) := by
  have hk := (List.getElem?_eq_some_iff.1 h).1
  apply List.ext_getElem?
  intro i
  have ht : (List.take k (linS rs k)).length = k := by simp; omega
  by_cases h1 : i < k
  · rw [List.getElem?_append_left (by omega), List.getElem?_take, if_pos h1]
    simp [linS, show i < rs.length by omega, h1, show i < k + 1 by omega]
  · rw [List.getElem?_append_right (by omega), ht]
    by_cases h2 : i = k
    · subst h2
      have h9 := (List.getElem?_eq_some_iff.1 h).2
      simp [linS, hk, List.getD_eq_getElem?_getD, h9]
    · obtain ⟨d, rfl⟩ : ∃ d, i = k + 1 + d := ⟨i - (k + 1), by omega⟩
      rw [show k + 1 + d - k = d + 1 by omega, List.getElem?_cons_succ, List.getElem?_drop]
      by_cases h3 : k + 1 + d < rs.length
      · simp [linS, h3, show ¬ k + 1 + d < k by omega, show ¬ k + 1 + d < k + 1 by omega]
      · simp [linS, h3]
theorem linS_zero (rs : List (Nat → Int)) : List.replicate rs.length SV.nilS = linS rs 0 := by
  apply List.ext_getElem?
  intro i
  by_cases hi : i < rs.length <;> simp [linS, hi]
theorem linS_end (rs : List (Nat → Int)) : linS rs rs.length = ((rs.map rowL).map intL).map .d := by
  apply List.ext_getElem?
  intro i
  by_cases hi : i < rs.length <;> simp [linS, hi, List.getD_eq_getElem?_getD]
set_option maxRecDepth 100000 in
set_option maxHeartbeats 8000000 in
theorem rows_ok (l : List HS) (e g : HE) (n : Nat) (m : Mem) (h0 : chkErr l [e, g] = 0) {k : Nat} (hneed : needN l g e = some k) :
    CWp Try.prog 25 [.d (boxD l), .d (edgD e), .d (edgD g)] n m fun y _ m' => (∃ id ty, n ≤ id ∧ y = .tup [.lin id k, .d (iD 0)] ∧ m' id = some (.box ty (linS ((rowsG l g).take k) k) false)) ∧ ∀ j, j < n → m' j = m j := by
  obtain ⟨hb, hes⟩ := chkOk h0
  have gg := goodE (e := g) (by simp at hes; exact hes.2)
  obtain ⟨hk1, hk2⟩ := rows_take hneed
  have hrk : ∀ r ∈ (rowsG l g).take k, rowOk r := fun r hr => rowsG_ok hb.all gg r (List.mem_of_mem_take hr)
  refine cwpK tabOk Try.func25 rfl rfl (show 3 ≤ _ by decide) rfl fun _ => ?_; simp only [Try.ntmps25]
  repeat (first | (with_reducible first | refine AWi.seqK fun _ => ?_ | refine AWi.blockK fun _ => ?_ | refine KI.go ?_) | ((first | refine AWi.region tabOk ?_ | refine AWi.condK fun _ _ => ?_); simp [-getElem?_pos, z0, z1, z2, z0]) | ((first | refine AWi.ret ?_ | refine AWi.skip ?_ | refine AWi.exit ?_); try simp only [thenP]) | (with_reducible refine BB.go ?_; simp only [blockP, thenP, reduceIte]))
  refine ExecI.callC (checkReach_w l e g _ _) rfl (by simp [calleeS, evList]) ?_
  rintro y n1 m1 ⟨hn1, hm1, hy⟩
  have hlow : ∀ j, j < n → m1 j = m j := fun j hj => (hm1 j (by omega)).trans (by (try dsimp only); repeat (first | rw [setMem_lt (by omega)] | rw [putN_lt (by omega)]))
  rw [if_pos h0, hneed] at hy
  obtain ⟨c, rfl, x, q1, q2, q3, q4⟩ := hy
  generalize (rowsG l g).take k = rs at *
  subst hk1
  have b1 : 24 * (rs.length : Int) ≤ 140737488355328 := by omega
  have b2 : (rs.length : Int) ≤ 9223372036854775807 := by omega
  have hlx : lenSV x = some rs.length := by
    rcases q4 with ⟨rfl, rfl⟩ | ⟨id, -, -, rfl, -⟩
    · rfl
    · rfl
  have e1 : ¬ c = n1 + 1 + 1 + 1 + 1 + 1 + 1 + 1 + 1 + 1 + 1 + 1 + 1 := by omega
  simp [-getElem?_pos, z0, z1, z2]
  repeat (first | (with_reducible first | refine AWi.seqK fun _ => ?_ | refine AWi.blockK fun _ => ?_ | refine KI.go ?_) | ((first | refine AWi.region tabOk ?_ | refine AWi.condK fun _ _ => ?_); simp [-getElem?_pos, z0, z1, z2, q3, hlx, b1, b2, e1]) | ((first | refine AWi.ret ?_ | refine AWi.skip ?_ | refine AWi.exit ?_); try simp only [thenP]) | (with_reducible refine BB.go ?_; simp only [blockP, thenP, reduceIte]))
  refine AWi.loopK (fun (k : Nat) n2 s => n1 + 1 + 1 + 1 + 1 + 1 + 1 + 1 + 1 + 1 + 1 + 1 + 1 < n2 ∧ s.slots 10 = .lin (n1 + 1 + 1 + 1 + 1 + 1 + 1 + 1 + 1 + 1 + 1 + 1 + 1) rs.length ∧ s.slots 32 = x ∧ s.slots 33 = .d (iD rs.length) ∧ s.slots 34 = .d (iD k) ∧ s.mem (n1 + 1 + 1 + 1 + 1 + 1 + 1 + 1 + 1 + 1 + 1 + 1 + 1) = some (.box 25 (linS rs k) false) ∧ (∀ j, j < n1 → s.mem j = m1 j) ∧ k ≤ rs.length) (fun k => rs.length - k) 0 ?_ ?_
  · refine ⟨by omega, by simp, by simp, by simp [iD], by simp [iD], by simp [linS_zero], fun j hj => ?_, by omega⟩
    simp [show ¬ j = n1 + 1 + 1 + 1 + 1 + 1 + 1 + 1 + 1 + 1 + 1 + 1 + 1 by omega]
  rintro k n2 s ⟨hle, s10, s32, s33, s34, ml, low, hkl⟩ kk
  have w1 : IntKind.i64.wrap ((k : Int) + 1) = (k : Int) + 1 := wrap64_in (by omega)
  by_cases hlt : k < rs.length
  · have hki : (k : Int) < (rs.length : Int) := by omega
    have hkp : k + 1 ≤ rs.length := by omega
    obtain ⟨q, hq⟩ : ∃ q, rs[k]? = some q := ⟨_, List.getElem?_eq_getElem hlt⟩
    have hqo := hrk q (List.mem_of_getElem? hq)
    have hrow : (rowsD rs)[k]? = some ((tab q).map iD) := by rw [rowsD, List.getElem?_map, hq]; rfl
    rcases q4 with ⟨h, -⟩ | ⟨id, i1, i2, rfl, i3⟩
    · rw [h] at hlt; exact absurd hlt (by simp)
    have i4 : s.mem id = some (.row 83 7 (rowsD rs) false) := (low id (by omega)).trans i3
    have cl := list_c q hqo
    have hput := linS_put hq
    rw [rowL] at hput
    have e2 : ¬ n1 + 1 + 1 + 1 + 1 + 1 + 1 + 1 + 1 + 1 + 1 + 1 + 1 = n2 + 3 := by omega
    have e3 : ¬ n2 + 3 = n1 + 1 + 1 + 1 + 1 + 1 + 1 + 1 + 1 + 1 + 1 + 1 + 1 := by omega
    have hrl : (rowsD rs).length = rs.length := by simp [rowsD]
    repeat (first | (with_reducible first | refine AWi.seqK fun _ => ?_ | refine AWi.blockK fun _ => ?_ | refine KI.go ?_) | ((first | refine AWi.region tabOk ?_ | refine AWi.condK fun _ _ => ?_); simp [-getElem?_pos, z0, z1, z2, s10, s32, s33, s34, hki, hlt, hrow, i4]) | ((first | refine AWi.ret ?_ | refine AWi.skip ?_ | refine AWi.exit ?_); try simp only [thenP]) | (with_reducible refine BB.go ?_; simp only [blockP, thenP, reduceIte]))
    have e4 : ¬ n1 + 1 + 1 + 1 + 1 + 1 + 1 + 1 + 1 + 1 + 1 + 1 + 1 = n2 + 1 + 1 + 1 + 1 := by omega
    have e5 : ¬ n1 + 1 + 1 + 1 + 1 + 1 + 1 + 1 + 1 = n2 := by omega
    refine ExecI.call [] cl ?_ rfl ?_ ?_; (focus simp [-getElem?_pos, s10, ml, hki, hlt, hkp, e4, e5, hput]); (focus simp [-getElem?_pos, z0, z1, z2, s10, ml, hki, hlt, hkp, e4, e5, hput]); simp [-getElem?_pos, z0, z1, z2, s10, ml, hki, hlt, hkp, e4, e5, hput]
    repeat (first | (with_reducible first | refine AWi.seqK fun _ => ?_ | refine AWi.blockK fun _ => ?_ | refine KI.go ?_) | ((first | refine AWi.region tabOk ?_ | refine AWi.condK fun _ _ => ?_); simp [-getElem?_pos, z0, z1, z2, s34, w1, hput, ml, hki, hlt, hkp, e4, e5]) | ((first | refine AWi.ret ?_ | refine AWi.skip ?_ | refine AWi.exit ?_); try simp only [thenP]) | (with_reducible refine BB.go ?_; simp only [blockP, thenP, reduceIte]))
    refine LI.go (k + 1) ⟨by omega, by simp [s10], by simp [s32], by simp [s33], by simp [iD], by simp, fun j hj => ?_, hlt⟩ (by omega)
    simp [show ¬ j = n1 + 1 + 1 + 1 + 1 + 1 + 1 + 1 + 1 + 1 + 1 + 1 + 1 by omega, show ¬ j = n2 + 1 + 1 + 1 + 1 by omega, low j hj]
  · obtain rfl : k = rs.length := by omega
    repeat (first | (with_reducible first | refine AWi.seqK fun _ => ?_ | refine AWi.blockK fun _ => ?_ | refine KI.go ?_) | ((first | refine AWi.region tabOk ?_ | refine AWi.condK fun _ _ => ?_); simp [-getElem?_pos, z0, z1, z2, s10, s32, s33, s34]) | ((first | refine AWi.ret ?_ | refine AWi.skip ?_ | refine AWi.exit ?_); try simp only [thenP]) | (with_reducible refine BB.go ?_; simp only [blockP, thenP, reduceIte]))
    exact RI.ret rfl ⟨⟨n1 + 1 + 1 + 1 + 1 + 1 + 1 + 1 + 1 + 1 + 1 + 1 + 1, 25, by omega, by simp [retV, s10], ml⟩, fun j hj => (low j (by omega)).trans (hlow j hj)⟩
set_option maxRecDepth 100000 in
set_option maxHeartbeats 8000000 in
theorem rows_no (l : List HS) (e g : HE) (n : Nat) (m : Mem) (h : reachE l g e ≠ 0) :
    CWp Try.prog 25 [.d (boxD l), .d (edgD e), .d (edgD g)] n m fun y _ m' => toD4 y = some (.tup [.list [], iD (reachE l g e)]) ∧ ∀ j, j < n → m' j = m j := by
  refine cwpK tabOk Try.func25 rfl rfl (show 3 ≤ _ by decide) rfl fun _ => ?_; simp only [Try.ntmps25]
  repeat (first | (with_reducible first | refine AWi.seqK fun _ => ?_ | refine AWi.blockK fun _ => ?_ | refine KI.go ?_) | ((first | refine AWi.region tabOk ?_ | refine AWi.condK fun _ _ => ?_); simp [-getElem?_pos, z0, z1, z2, z0]) | ((first | refine AWi.ret ?_ | refine AWi.skip ?_ | refine AWi.exit ?_); try simp only [thenP]) | (with_reducible refine BB.go ?_; simp only [blockP, thenP, reduceIte]))
  refine ExecI.callC (checkReach_w l e g _ _) rfl (by simp [calleeS, evList]) ?_
  rintro y n1 m1 ⟨hn1, hm1, hy⟩
  have hlow : ∀ j, j < n → m1 j = m j := fun j hj => (hm1 j (by omega)).trans (by (try dsimp only); repeat (first | rw [setMem_lt (by omega)] | rw [putN_lt (by omega)]))
  by_cases h0 : chkErr l [e, g] = 0
  · rw [if_pos h0] at hy
    have hneed : needN l g e = none := by
      cases hn : needN l g e with
      | none => rfl
      | some k => exact absurd (by rw [reachE, if_pos h0, hn]) h
    rw [hneed] at hy
    subst hy
    have hE : reachE l g e = 13 := by rw [reachE, if_pos h0, hneed]
    simp [-getElem?_pos, z0, z1, z2]
    repeat (first | (with_reducible first | refine AWi.seqK fun _ => ?_ | refine AWi.blockK fun _ => ?_ | refine KI.go ?_) | ((first | refine AWi.region tabOk ?_ | refine AWi.condK fun _ _ => ?_); simp [-getElem?_pos, z0, z1, z2, z0]) | ((first | refine AWi.ret ?_ | refine AWi.skip ?_ | refine AWi.exit ?_); try simp only [thenP]) | (with_reducible refine BB.go ?_; simp only [blockP, thenP, reduceIte]))
    exact RI.ret rfl ⟨by rw [hE]; rfl, hlow⟩
  · rw [if_neg h0] at hy
    subst hy
    have hE : reachE l g e = chkErr l [e, g] := if_neg h0
    simp [-getElem?_pos, z0, z1, z2]
    repeat (first | (with_reducible first | refine AWi.seqK fun _ => ?_ | refine AWi.blockK fun _ => ?_ | refine KI.go ?_) | ((first | refine AWi.region tabOk ?_ | refine AWi.condK fun _ _ => ?_); simp [-getElem?_pos, z0, z1, z2, h0]) | ((first | refine AWi.ret ?_ | refine AWi.skip ?_ | refine AWi.exit ?_); try simp only [thenP]) | (with_reducible refine BB.go ?_; simp only [blockP, thenP, reduceIte]))
    exact RI.ret rfl ⟨by rw [hE]; rfl, hlow⟩
theorem reach_ok {l : List HS} {e g : HE} (h : reachE l g e = 0) : chkErr l [e, g] = 0 ∧ ∃ k, needN l g e = some k := by
  unfold reachE at h
  split at h
  · rename_i h0
    refine ⟨h0, ?_⟩
    cases hn : needN l g e with
    | none => rw [hn] at h; cases h
    | some k => exact ⟨k, rfl⟩
  · rename_i h0
    exact absurd h h0
theorem rowsO_no {l : List HS} {e g : HE} (h : reachE l g e ≠ 0) : rowsO l e g = [] := by
  unfold rowsO
  split
  · rename_i h0
    cases hn : needN l g e with
    | none => rfl
    | some k => exact absurd (by rw [reachE, if_pos h0, hn]) h
  · rfl
theorem rows_c (l : List HS) (e g : HE) : ACall Try.prog 25 [boxD l, edgD e, edgD g] (.tup [.list (listsD (rowsO l e g)), iD (reachE l g e)]) := by
  by_cases h : reachE l g e = 0
  · obtain ⟨h0, k, hneed⟩ := reach_ok h
    obtain ⟨hk1, hk2⟩ := rows_take hneed
    have hO : rowsO l e g = ((rowsG l g).take k).map rowL := by rw [rowsO, if_pos h0, hneed]
    have hk3 : ((rowsO l e g).map intL).length = k := by rw [hO, List.length_map, List.length_map, hk1]
    have e1 : listsD (rowsO l e g) = ((rowsO l e g).map intL).map fun d => [d] := by simp [listsD]
    rw [e1, h]
    refine ACall.ofR (RCall.ofLin (n0 := 0) (by rw [hk3]; omega) (fun d hd => by obtain ⟨L, _, rfl⟩ := List.mem_map.1 hd; rfl) fun n _ => (rows_ok l e g n _ h0 hneed).mono ?_)
    rintro y n' m' ⟨⟨id, ty, q1, q2, q3⟩, q4⟩
    refine ⟨⟨id, ty, q1, by rw [hk3]; exact q2, ?_⟩, q4⟩
    rw [q3, hO]
    have := linS_end ((rowsG l g).take k)
    rw [hk1] at this
    rw [this]
  · rw [rowsO_no h]
    exact ACall.ofR (RCall.of4 (n0 := 0) fun n _ => (rows_no l e g n _ h).mono fun _ _ _ h => ⟨h.1, h.2⟩)
end Go.Proofs.Ytgiomfamlbmpcaa.Eng

namespace Go.Proofs.Ytgiomfamlbmpcaa.Eng
variable {P : Program}
theorem own_data {E E2 : Env} {w : World} {id k z : Nat} {ty : TypeId} {rows : List (List Dat)} {fr : Bool} {v : Value} (hv : Rep E w (.own id k z) v) (hm : Holds E w (E.home id) (.row ty z rows fr)) (hk : rows.length = k) (hr : ∀ b, E.ro b → E2.ro b) (hb : E2.ro (E.home id).blk) : Rep E2 w (.d (.list rows)) v := by
  subst hk
  cases hv with
  | own _ _ _ hd hz =>
  cases hm with
  | row _ _ _ _ cur g1 g2 g3 g4 g5 g6 g7 g8 =>
  refine .d _ _ (.list rows _ _ (fun i j => cur.getD (i * z + j) (.int .i64 0)) g4 g5 g7 (fun _ => ⟨_, 0, z, rfl, hb, g6, fun i j hi hj => ?_⟩) fun i j r c hi hj => ?_)
  · have hsz : i * z + j < cur.size := by
      rw [g3]
      exact Nat.lt_of_lt_of_le (Nat.lt_of_lt_of_le (Nat.add_lt_add_left hj _) (by rw [← Nat.succ_mul]; exact Nat.mul_le_mul_right _ hi)) (Nat.mul_le_mul_right _ g4)
    rw [Nat.zero_add, World.cell?]
    simp [g1, Array.getD_eq_getD_getElem?, hsz]
  · have hir := (List.getElem?_eq_some_iff.1 hi).1
    have hjz : j < z := by rw [← g6 r (List.mem_of_getElem? hi)]; exact (List.getElem?_eq_some_iff.1 hj).1
    have hsz : i * z + j < cur.size := by
      rw [g3]
      exact Nat.lt_of_lt_of_le (Nat.lt_of_lt_of_le (Nat.add_lt_add_left hjz _) (by rw [← Nat.succ_mul]; exact Nat.mul_le_mul_right _ hir)) (Nat.mul_le_mul_right _ g4)
    have := g8 i j r c _ hi hj (Array.getElem?_eq_getElem hsz)
    rw [show cur.getD (i * z + j) (.int .i64 0) = cur[i * z + j] by simp [Array.getD_eq_getD_getElem?, hsz]]
    exact this.keep hr fun _ _ => rfl
theorem CWp.shut1 {f : FuncId} {id k z n : Nat} {ty : TypeId} {rows : List (List Dat)} {m : Mem} {Q : SV → Nat → Mem → Prop} (hm : m id = some (.row ty z rows false)) (hk : rows.length = k) (h : CWp P f [.d (.list rows)] n (setMem m id (some (.row ty z rows true))) Q) : CWp P f [.own id k z] n m Q :=
  ⟨h.callable, fun W0 R0 E w vs M h1 h2 => by
    let E2 : Env := { E with ro := fun b => E.ro b ∨ b = (E.home id).blk }
    have hle : E.le E2 := ⟨fun _ h => .inl h, fun _ h => h, fun _ _ => rfl⟩
    have e : ∀ {i b}, setMem m id (some (.row ty z rows true)) i = some b → (i = id ∧ b = .row ty z rows true) ∨ (i ≠ id ∧ m i = some b) := fun {i b} hi => by
      unfold setMem at hi
      split at hi
      · rename_i e; cases hi; exact .inl ⟨e, rfl⟩
      · rename_i e; exact .inr ⟨e, hi⟩
    have M2 : MS W0 R0 (· < n) (setMem m id (some (.row ty z rows true))) E2 w := by
      refine ⟨M.below, fun b hb => .inl (M.ro0 b hb), fun b hb => ?_, fun b hb => ?_, M.dom, fun i b hi => ?_, fun i b hi => ?_, fun i b hi => ?_, fun i b hi => ?_, fun i j b c hi hj hn => ?_⟩
      · rcases hb with hb | rfl
        · exact M.ro1 b hb
        · exact .inr (M.base id _ hm)
      · rcases hb with hb | rfl
        · exact M.rlt b hb
        · exact (M.mem id _ hm).lt
      · rcases e hi with ⟨rfl, rfl⟩ | ⟨_, hi⟩
        · exact M.live _ _ hm
        · exact M.live _ _ hi
      · rcases e hi with ⟨rfl, rfl⟩ | ⟨_, hi⟩
        · have h3 := (M.mem _ _ hm).keep hle (fun _ _ => rfl) rfl
          cases h3 with
          | row _ _ _ _ cur g1 g2 g3 g4 g5 g6 g7 g8 => exact .row _ _ _ _ cur g1 g2 g3 g4 g5 g6 g7 g8
        · exact (M.mem _ _ hi).keep hle (fun _ _ => rfl) rfl
      · rcases e hi with ⟨rfl, rfl⟩ | ⟨_, hi⟩
        · exact M.base _ _ hm
        · exact M.base _ _ hi
      · rcases e hi with ⟨rfl, rfl⟩ | ⟨hne, hi⟩
        · exact ⟨fun _ => .inr rfl, fun _ => rfl⟩
        · refine (M.frz i b hi).trans ⟨.inl, fun h => h.elim (fun h => h) fun h => ?_⟩
          exact absurd h (M.inj i id b _ hi hm hne)
      · rcases e hi with ⟨e1, e2⟩ | ⟨hne, hi2⟩
        · rcases e hj with ⟨e3, e4⟩ | ⟨hne2, hj2⟩
          · exact absurd (e1.trans e3.symm) hn
          · rw [e1]
            exact M.inj id j _ _ hm hj2 (e1 ▸ hn)
        · rcases e hj with ⟨e3, e4⟩ | ⟨hne2, hj2⟩
          · rw [e3]
            exact M.inj i id _ _ hi2 hm (e3 ▸ hn)
          · exact M.inj i j _ _ hi2 hj2 hn
    refine (h.calls W0 R0 E2 w vs M2 (by simpa using h1) fun i x v hx hv => ?_).mono ?_
    · match i with
      | 0 =>
        simp only [List.getElem?_cons_zero, Option.some.injEq] at hx
        subst hx
        exact own_data (h2 0 _ v rfl hv) (M.mem id _ hm) hk (fun _ h => .inl h) (.inr rfl)
      | i + 1 => simp at hx
    · rintro ex w' ⟨v, E', n', m', y, a, b, c, d, e, f⟩
      exact ⟨v, E', n', m', y, a, b, hle.trans c, fun b hb => d b (.inl hb), e, f⟩⟩
end Go.Proofs.Ytgiomfamlbmpcaa.Eng

noncomputable section
namespace Go.Proofs.Ytgiomfamlbmpcaa.Eng
open Go.RowKit
def chkNever (l : List HS) (e g : HE) (L : List Int) : Int := if chkErr l [e, g] = 0 then (if rowOfB L then (if proveB l e (firstR g) [rowOfR L, rowOfR L] then 0 else 14) else 3) else chkErr l [e, g]
set_option maxRecDepth 100000 in
set_option maxHeartbeats 8000000 in
theorem checkNever_x (l : List HS) (e g : HE) (L : List Int) (hL : L.length ≤ 1000000) (n : Nat) (m : Mem) :
    CWp Try.prog 34 [.d (boxD l), .d (edgD e), .d (edgD g), .d (intL L)] n m fun y _ m' => (∀ j, j < n → m' j = m j) ∧ y = .d (iD (chkNever l e g L)) := by
  have cb : ACall Try.prog 49 [boxD l, .list [[iD e.depth, iD e.burr], [iD g.depth, iD g.burr]]] (.tup [.agg [boxD (chkB l [e, g])], iD (chkErr l [e, g])]) := check_c l [e, g] (by simp)
  by_cases h0 : chkErr l [e, g] = 0
  · obtain ⟨hb, hes⟩ := chkOk h0
    have ge := goodE (e := e) (by simp at hes; exact hes.1)
    have gg := goodE (e := g) (by simp at hes; exact hes.2)
    have hcb : chkB l [e, g] = l := if_pos h0
    rw [h0, hcb] at cb
    have o1 : ¬ n = n + 1 := by omega
    have o2 : ¬ n + 1 = n := by omega
    have o3 : ¬ n = n + 1 + 1 + 1 + 1 + 1 + 1 := by omega
    refine cwpK tabOk Try.func34 rfl rfl (show 4 ≤ _ by decide) rfl fun _ => ?_; simp only [Try.ntmps34]
    repeat (first | (with_reducible first | refine AWi.seqK fun _ => ?_ | refine AWi.blockK fun _ => ?_ | refine KI.go ?_) | ((first | refine AWi.region tabOk ?_ | refine AWi.condK fun _ _ => ?_); simp [-getElem?_pos, z0, z1, z2, z0]) | ((first | refine AWi.ret ?_ | refine AWi.skip ?_ | refine AWi.exit ?_); try simp only [thenP]) | (with_reducible refine BB.go ?_; simp only [blockP, thenP, reduceIte]))
    refine ExecI.call [n + 1 + 1 + 1 + 1 + 1 + 1] cb ?_ rfl ?_ ?_; (focus simp [-getElem?_pos, ]); (focus simp [-getElem?_pos, z0, z1, z2, ]); simp [-getElem?_pos, z0, z1, z2, ]
    repeat (first | (with_reducible first | refine AWi.seqK fun _ => ?_ | refine AWi.blockK fun _ => ?_ | refine KI.go ?_) | ((first | refine AWi.region tabOk ?_ | refine AWi.condK fun _ _ => ?_); simp [-getElem?_pos, z0, z1, z2, z0]) | ((first | refine AWi.ret ?_ | refine AWi.skip ?_ | refine AWi.exit ?_); try simp only [thenP]) | (with_reducible refine BB.go ?_; simp only [blockP, thenP, reduceIte]))
    refine ExecI.callC (CWp.shut1 (z := 1) (k := 2) (id := n + 1 + 1 + 1 + 1 + 1 + 1 + 1 + 1 + 1 + 1 + 1 + 1 + 1 + 1 + 1 + 1 + 1 + 1) (ty := 25) (rows := listsD [L, L]) (by simp [listsD]) (by rfl) (rowsOf_w [L, L] (by simpa using hL) (by simp) _ _)) rfl (by simp [calleeS, evList]) ?_
    rintro y n1 m1 ⟨hm1, hy⟩
    have hall : [L, L].all rowOfB = rowOfB L := by simp
    rw [hall] at hy
    rcases hB : rowOfB L
    · rw [hB] at hy
      have hE : chkNever l e g L = 3 := by rw [chkNever, if_pos h0, hB]; rfl
      obtain rfl : y = .tup [.nilS, .d (bD false)] := by simpa using hy
      simp [-getElem?_pos, z0, z1, z2]
      repeat (first | (with_reducible first | refine AWi.seqK fun _ => ?_ | refine AWi.blockK fun _ => ?_ | refine KI.go ?_) | ((first | refine AWi.region tabOk ?_ | refine AWi.condK fun _ _ => ?_); simp [-getElem?_pos, z0, z1, z2, z0]) | ((first | refine AWi.ret ?_ | refine AWi.skip ?_ | refine AWi.exit ?_); try simp only [thenP]) | (with_reducible refine BB.go ?_; simp only [blockP, thenP, reduceIte]))
      exact RI.ret rfl ⟨fun j hj => (hm1 j (by omega)).trans (by (try dsimp only); repeat (first | rw [setMem_lt (by omega)] | rw [putN_lt (by omega)])), by rw [hE]; rfl⟩
    · rw [hB] at hy
      simp only [if_true] at hy
      obtain ⟨id, i1, i2, rfl, i3⟩ := hy
      simp [-getElem?_pos, z0, z1, z2]
      repeat (first | (with_reducible first | refine AWi.seqK fun _ => ?_ | refine AWi.blockK fun _ => ?_ | refine KI.go ?_) | ((first | refine AWi.region tabOk ?_ | refine AWi.condK fun _ _ => ?_); simp [-getElem?_pos, z0, z1, z2, z0]) | ((first | refine AWi.ret ?_ | refine AWi.skip ?_ | refine AWi.exit ?_); try simp only [thenP]) | (with_reducible refine BB.go ?_; simp only [blockP, thenP, reduceIte]))
      have hlow : ∀ j, j < n → m1 j = m j := fun j hj => (hm1 j (by omega)).trans (by (try dsimp only); repeat (first | rw [setMem_lt (by omega)] | rw [putN_lt (by omega)]))
      have me : m1 n = some (.box 24 [.d (iD e.depth), .d (iD e.burr)] false) := (hm1 n (by omega)).trans (by simp [show ¬ n = n + 1 + 1 + 1 + 1 + 1 + 1 by omega, show ¬ n = n + 1 + 1 + 1 + 1 + 1 + 1 + 1 + 1 + 1 + 1 + 1 + 1 + 1 + 1 + 1 + 1 + 1 + 1 by omega])
      have mg : m1 (n + 1) = some (.box 24 [.d (iD g.depth), .d (iD g.burr)] false) := (hm1 (n + 1) (by omega)).trans (by simp)
      have mb : m1 (n + 1 + 1 + 1 + 1 + 1 + 1 + 1 + 1 + 1 + 1 + 1) = some (.box 65 [.d (boxD l)] false) := (hm1 (n + 1 + 1 + 1 + 1 + 1 + 1 + 1 + 1 + 1 + 1 + 1) (by omega)).trans (by simp)
      have hpe : chkNever l e g L = if proveB l e (firstR g) [rowOfR L, rowOfR L] then 0 else 14 := by rw [chkNever, if_pos h0, if_pos hB]
      have q1 : n < n1 + 1 + 1 + 1 + 1 + 1 + 1 + 1 := by omega
      have q2 : n + 1 < n1 + 1 + 1 + 1 + 1 + 1 + 1 + 1 := by omega
      have q3 : n + 1 + 1 + 1 + 1 + 1 + 1 + 1 + 1 + 1 + 1 + 1 < n1 + 1 + 1 + 1 + 1 + 1 + 1 + 1 := by omega
      refine AWi.drawsM mixedH 5 (by kernel_rfl) (by kernel_rfl) (by kernel_rfl) ?_
      simp only [List.take_succ_cons, List.take_zero]
      repeat (with_reducible refine ExecV.auto tabOk ?_; simp [-getElem?_pos, z0, z1, z2, kindV, isPure, me, mg, mb, q1, q2, q3]; try (refine And.intro (OkV_old (by simp; try omega) (by omega) (by simp [AllAcc])) ?_))
      refine ExecV.callP [] (reaches_n g _ _) (by omega) (fun i hi => by cases hi) rfl (by simp [calleeS, evList]) (OkV_old (by simp) (by omega) (by simp [AllAcc])) ?_
      repeat (with_reducible refine ExecV.auto tabOk ?_; simp [-getElem?_pos, z0, z1, z2, kindV, isPure, me, mg, mb, q1, q2, q3]; try (refine And.intro (OkV_old (by simp; try omega) (by omega) (by simp [AllAcc])) ?_))
      refine ⟨_, stepI_call (svs := [.agg [.d (boxD l)], .agg [.d (iD e.depth), .d (iD e.burr)], reachF (n1 + 1 + 1 + 1 + 1 + 1 + 1 + 1), .own id ([L, L].map rowOfR).length 7]) (by simp [calleeS, evList]) (prove_w l hb.all hb.n2 g gg e ge ([L, L].map rowOfR) (fun r hr => by obtain ⟨L, _, rfl⟩ := List.mem_map.1 hr; exact rowOfR_ok L) (by simp) (n1 + 1 + 1 + 1 + 1 + 1 + 1 + 1) (n1 + 1 + 1 + 1 + 1 + 1 + 1 + 1 + 1 + 1 + 1 + 1) id _ (by omega) ⟨false, by simp⟩ (by omega) (z := false) (by (try dsimp only); repeat (first | rw [setMem_lt (by omega)] | rw [putN_lt (by omega)]); exact i3)), ?_⟩
      rintro n2 s2 ⟨y, m', ⟨hm2, rfl⟩, rfl⟩
      simp only [restO, List.drop_succ_cons, List.drop_zero, List.map_cons, List.map_nil, shiftO]
      repeat (with_reducible refine ExecV.auto tabOk ?_; simp [-getElem?_pos, z0, z1, z2, kindV, isPure, z0]; try (refine And.intro (OkV_old (by simp; try omega) (by omega) (by simp [AllAcc])) ?_))
      unfold ExecV
      simp only [thenP]
      rcases hP : proveB l e (firstR g) [rowOfR L, rowOfR L]
      · repeat (first | (with_reducible first | refine AWi.seqK fun _ => ?_ | refine AWi.blockK fun _ => ?_ | refine KI.go ?_) | ((first | refine AWi.region tabOk ?_ | refine AWi.condK fun _ _ => ?_); simp [-getElem?_pos, z0, z1, z2, z0]) | ((first | refine AWi.ret ?_ | refine AWi.skip ?_ | refine AWi.exit ?_); try simp only [thenP]) | (with_reducible refine BB.go ?_; simp only [blockP, thenP, reduceIte]))
        exact RI.ret rfl ⟨fun j hj => (hm2 j (by omega)).trans (by (try dsimp only); repeat (first | rw [setMem_lt (by omega)] | rw [putN_lt (by omega)]); exact hlow j hj), by rw [hpe, hP]; rfl⟩
      · repeat (first | (with_reducible first | refine AWi.seqK fun _ => ?_ | refine AWi.blockK fun _ => ?_ | refine KI.go ?_) | ((first | refine AWi.region tabOk ?_ | refine AWi.condK fun _ _ => ?_); simp [-getElem?_pos, z0, z1, z2, z0]) | ((first | refine AWi.ret ?_ | refine AWi.skip ?_ | refine AWi.exit ?_); try simp only [thenP]) | (with_reducible refine BB.go ?_; simp only [blockP, thenP, reduceIte]))
        exact RI.ret rfl ⟨fun j hj => (hm2 j (by omega)).trans (by (try dsimp only); repeat (first | rw [setMem_lt (by omega)] | rw [putN_lt (by omega)]); exact hlow j hj), by rw [hpe, hP]; rfl⟩
  · have hE : chkNever l e g L = chkErr l [e, g] := if_neg h0
    generalize chkErr l [e, g] = er at *
    generalize chkB l [e, g] = bb at *
    refine cwpK tabOk Try.func34 rfl rfl (show 4 ≤ _ by decide) rfl fun _ => ?_; simp only [Try.ntmps34]
    repeat (first | (with_reducible first | refine AWi.seqK fun _ => ?_ | refine AWi.blockK fun _ => ?_ | refine KI.go ?_) | ((first | refine AWi.region tabOk ?_ | refine AWi.condK fun _ _ => ?_); simp [-getElem?_pos, z0, z1, z2, z0]) | ((first | refine AWi.ret ?_ | refine AWi.skip ?_ | refine AWi.exit ?_); try simp only [thenP]) | (with_reducible refine BB.go ?_; simp only [blockP, thenP, reduceIte]))
    refine ExecI.call [n + 1 + 1 + 1 + 1 + 1 + 1] cb ?_ rfl ?_ ?_; (focus simp [-getElem?_pos, ]); (focus simp [-getElem?_pos, z0, z1, z2, ]); simp [-getElem?_pos, z0, z1, z2, ]
    repeat (first | (with_reducible first | refine AWi.seqK fun _ => ?_ | refine AWi.blockK fun _ => ?_ | refine KI.go ?_) | ((first | refine AWi.region tabOk ?_ | refine AWi.condK fun _ _ => ?_); simp [-getElem?_pos, z0, z1, z2, h0]) | ((first | refine AWi.ret ?_ | refine AWi.skip ?_ | refine AWi.exit ?_); try simp only [thenP]) | (with_reducible refine BB.go ?_; simp only [blockP, thenP, reduceIte]))
    exact RI.ret rfl ⟨fun j hj => by (try dsimp only); repeat (first | rw [setMem_lt (by omega)] | rw [putN_lt (by omega)]), by rw [hE]; rfl⟩
theorem checkNever_c (l : List HS) (e g : HE) (L : List Int) (hL : L.length ≤ 1000000) : ACall Try.prog 34 [boxD l, edgD e, edgD g, intL L] (iD (chkNever l e g L)) :=
  ACall.ofR (RCall.of (n0 := 0) fun n _ => (checkNever_x l e g L hL n _).mono fun _ _ _ h => ⟨h.2, h.1⟩)
end Go.Proofs.Ytgiomfamlbmpcaa.Eng

noncomputable section
namespace Go.Proofs.Ytgiomfamlbmpcaa.Eng
open Go.RowKit
variable {P : Program} {T : Tab} {r : Option Nat} {ns n : Nat} {s : St}
theorem ExecS.auto (hT : TabOk P T) {ops : Array Oper} {o : Oper} {l : List Oper} {Q : Nat → St → Prop} (h : match guardS ops ns s o, waits o.op, aop T s.mem n (opd ns s) o.op with
    | some true, false, some out => ExecS P r ns ops (n + 1) l (putS s n o.dst out) Q
    | _, _, _ => False) : ExecS P r ns ops n (o :: l) s Q := by
  split at h
  · rename_i out hg hw hx
    exact ExecS.plain hT hg hw hx h
  · exact h.elim
theorem rep_nil {E : Env} {w : World} {v : Value} (h : Rep E w .nilS v) : v = .slice none 0 0 := by cases h; rfl
theorem ExecS.capNil (hT : TabOk P T) {ops : Array Oper} {o : Oper} {lo : List Oper} {Q : Nat → St → Prop} {cl : Call} {x : Operand} {t e : TypeId} {i : TI} (ho : o.op = .call cl) (hc1 : cl.callee = .builtin .cap) (hc2 : cl.args.toList = [x]) (hc3 : cl.argTypes.toList = [t]) (hg : guardS ops ns s o = some true) (hi : T t = some i) (hk : i.kind = .slice e) (hx : opd ns s x = some .nilS)
    (h : ExecS P r ns ops n lo ⟨setSlot s.slots o.dst (.d (.val (.int .i64 0))), s.mem⟩ Q) : ExecS P r ns ops n (o :: lo) s Q :=
  ⟨hg, fun n' s' => n' = n ∧ s' = ⟨setSlot s.slots o.dst (.d (.val (.int .i64 0))), s.mem⟩, fun W0 R0 B E a w hin hs hd K Q' hK => by
    rw [call_eq hc1 hc2 hc3] at ho
    have hu := slice_und (hT t i hi) hk
    have hv := rep_nil (hs.opd hx)
    refine oper_in (fun c e => by rw [ho] at e; cases e) ?_
    unfold Oper.wp
    have he : (execOp a.eval o).run P w = .ok (.value (goInt 0)) w := by
      simp [execOp, ho, resolve, invoke, builtin, hv, Builtin.cap_, run_underlying hu]
    rw [he]
    exact hK n _ E _ w ⟨rfl, rfl⟩ (hs.put hd (rep_val rfl)), fun n' s' ⟨e1, e2⟩ => by rw [e1, e2]; exact h⟩
theorem ExecS.sliceNil (hT : TabOk P T) {ops : Array Oper} {o : Oper} {lo : List Oper} {Q : Nat → St → Prop} {x y : Operand} {t e : TypeId} {i ie : TI} {kd : IntKind} (ho : o.op = .slice t x none (some y) none) (hg : guardS ops ns s o = some true) (hi : T t = some i) (hk : i.kind = .slice e) (hie : T e = some ie) (hx : opd ns s x = some .nilS) (hy : opd ns s y = some (.d (.val (.int kd 0))))
    (h : ExecS P r ns ops n lo ⟨setSlot s.slots o.dst .nilS, s.mem⟩ Q) : ExecS P r ns ops n (o :: lo) s Q :=
  ⟨hg, fun n' s' => n' = n ∧ s' = ⟨setSlot s.slots o.dst .nilS, s.mem⟩, fun W0 R0 B E a w hin hs hd K Q' hK => by
    have hyv := rep_int (hs.opd hy)
    have hc : sliceC T i .nilS none (some 0) none = some .nilS := by simp [sliceC, hk, hie]
    obtain ⟨z, h1, h2⟩ := sliceC_run (w := w) hT hi Bd.none (Bd.some kd 0) Bd.none hc (hs.opd hx)
    refine oper_in (fun c e => by rw [ho] at e; cases e) ?_
    unfold Oper.wp
    have he : (execOp a.eval o).run P w = .ok (.value z) w := by
      simp only [execOp, ho, Sem.run_bind]
      simp [hyv, h1]
    rw [he]
    exact hK n _ E _ w ⟨rfl, rfl⟩ (hs.put hd h2), fun n' s' ⟨e1, e2⟩ => by rw [e1, e2]; exact h⟩
theorem ExecS.appendZ (hT : TabOk P T) {ops : Array Oper} {o : Oper} {lo : List Oper} {Q : Nat → St → Prop} {cl : Call} {x y : Operand} {t t' e : TypeId} {i i' ie : TI} {kn kd : IntKind} {k : Nat} (ho : o.op = .call cl) (hc1 : cl.callee = .builtin .append) (hc2 : cl.args.toList = [x, y]) (hc3 : cl.argTypes.toList = [t, t']) (hg : guardS ops ns s o = some true) (hi : T t = some i) (hk : i.kind = .slice e) (hi' : T t' = some i') (hk' : i'.kind = .int kn) (hie : T e = some ie) (hx : opd ns s x = some .nilS) (hy : opd ns s y = some (.d (.val (.int kd k)))) (hn : 0 < k) (hf : fitsB k ie.bytes = true)
    (h : ExecS P r ns ops (n + 1) lo ⟨setSlot s.slots o.dst (.own n k ie.size), setMem s.mem n (some (.row e ie.size [] false))⟩ Q) : ExecS P r ns ops n (o :: lo) s Q :=
  ⟨hg, fun n' s' => n' = n + 1 ∧ s' = ⟨setSlot s.slots o.dst (.own n k ie.size), setMem s.mem n (some (.row e ie.size [] false))⟩, fun W0 R0 B E a w hin hs hd K Q' hK => by
    rw [call_eq hc1 hc2 hc3] at ho
    have hu := slice_und (hT t i hi) hk
    have hu' : P.underlying t' = some (.int kn) := by have := (hT _ _ hi').und; rw [hk'] at this; exact this
    obtain ⟨inf, z0, i1, i4, i2, i3, hzs, hz⟩ := zeros_reps (E := E) (w := w) hT hie
    have hsz := (hT e ie hie).pos
    obtain ⟨c2, c3⟩ := fitsB_iff.1 hf
    have hxv := rep_nil (hs.opd hx)
    have hyv := rep_int (hs.opd hy)
    have hr := Lib.run_append_nil_zeros (P := P) w t t' o.type e inf z0 kd kn hu hu' i1 i4 k hn (by rw [i2]; exact hsz) (by simp only [maxLen] at c3; omega) (by rw [i3]; omega)
    have hge := grownCap_ge w k 0 e
    have hcm : grownCap w k 0 e ≤ maxLen := grownCap_le_maxLen w k 0 e c3
    generalize hcap : grownCap w k 0 e = cap at hr hge hcm
    generalize hnew : Builtin.zeroCells z0.cells k ++ Builtin.zeroCells z0.cells (cap - k) = new at hr
    have hcs : new.size = cap * ie.size := by
      rw [← hnew, Array.size_append, size_zeroCells, size_zeroCells, hzs, ← Nat.add_mul]
      congr 1
      omega
    have he : (execOp a.eval o).run P w = .ok (.value (.slice (some ⟨w.heap.size, 0, none⟩) k cap)) (w.drew.alloc (.cells new e)) := by
      simp only [execOp, ho, resolve, invoke, builtin, Sem.run_bind, Sem.run_pure, Result.andThen_ok, List.map_toArray, List.map_cons, List.map_nil, hxv, hyv, hr]
    have hb : Below w.heap.size w (w.drew.alloc (.cells new e)) := ⟨rfl, rfl, rfl, by simp, fun k hk => heap_alloc_old w.drew _ hk⟩
    have hro : ∀ b, E.ro b → (w.drew.alloc (.cells new e)).heap[b]? = w.heap[b]? := fun b hb' => hb.block b (hs.rlt b hb')
    have key := hs.new (i := n) (w' := w.drew.alloc (.cells new e)) (by omega) (.row e ie.size [] false) ⟨w.heap.size, cap, ie.size⟩ (hs.kept hb) hro (fun k c hk => hb.block _ (hs.mem k c hk).lt) (.row _ _ [] false new (heap_alloc_new w.drew _) rfl hcs (Nat.zero_le _) hcm (by simp) (by simp) (by simp)) (hs.fresh (Nat.le_refl _)) rfl (fun hk => Nat.lt_irrefl _ (hs.rlt _ hk)) (fun k c hk e => Nat.lt_irrefl _ (e ▸ (hs.mem k c hk).lt))
    refine oper_in (fun c e => by rw [ho] at e; cases e) ?_
    unfold Oper.wp
    rw [he]
    refine hK (n + 1) _ (E.add n ⟨w.heap.size, cap, ie.size⟩) _ _ ⟨rfl, rfl⟩ ((key.put hd ?_).weak fun i hi => by rcases hi with h | h <;> omega)
    have := Rep.own (E := E.add n ⟨w.heap.size, cap, ie.size⟩) (w := w.drew.alloc (.cells new e)) n k ie.size (.inl rfl) (by simp [Env.add])
    simpa [Env.add] using this, fun n' s' ⟨e1, e2⟩ => by rw [e1, e2]; exact h⟩
theorem ExecS.cut0 (hT : TabOk P T) {ops : Array Oper} {o : Oper} {lo : List Oper} {Q : Nat → St → Prop} {x y : Operand} {t e : TypeId} {i ie : TI} {kd : IntKind} {id k z : Nat} (ho : o.op = .slice t x none (some y) none) (hg : guardS ops ns s o = some true) (hi : T t = some i) (hk : i.kind = .slice e) (hie : T e = some ie) (hx : opd ns s x = some (.own id k z)) (hy : opd ns s y = some (.d (.val (.int kd 0))))
    (h : ExecS P r ns ops n lo ⟨setSlot s.slots o.dst (.own id 0 z), s.mem⟩ Q) : ExecS P r ns ops n (o :: lo) s Q :=
  ⟨hg, fun n' s' => n' = n ∧ s' = ⟨setSlot s.slots o.dst (.own id 0 z), s.mem⟩, fun W0 R0 B E a w hin hs hd K Q' hK => by
    have hyv := rep_int (hs.opd hy)
    have hu := slice_und (hT t i hi) hk
    have hsz := (hT e ie hie).sizeOf w
    obtain ⟨u, hu'⟩ : ∃ u, a.eval x = u := ⟨_, rfl⟩
    have hr := hs.opd hx
    rw [hu'] at hr
    cases hr with
    | own _ _ _ hdm hz =>
    have hb := bounds_run (P := P) (w := w) (isS := true) (len := k) (cap := (E.home id).cap) Bd.none (Bd.some kd 0) Bd.none (by simp) (by simp) (by simp) (by simp) (by simp)
    simp only [Option.getD_none, Option.getD_some] at hb
    refine oper_in (fun c e => by rw [ho] at e; cases e) ?_
    unfold Oper.wp
    have he : (execOp a.eval o).run P w = .ok (.value (.slice (some ⟨(E.home id).blk, 0, none⟩) 0 (E.home id).cap)) w := by
      simp only [execOp, ho, Sem.run_bind]
      simp [hyv, hu', Instr.sliceAt, Instr.slice, run_underlying hu, hsz, hb, Addr.add_lit]
    rw [he]
    exact hK n _ E _ w ⟨rfl, rfl⟩ (hs.put hd (.own id 0 z hdm hz)), fun n' s' ⟨e1, e2⟩ => by rw [e1, e2]; exact h⟩
theorem ExecS.append0 (hT : TabOk P T) {ops : Array Oper} {o : Oper} {lo : List Oper} {Q : Nat → St → Prop} {cl : Call} {x y : Operand} {t e : TypeId} {i ie : TI} (ho : o.op = .call cl) (hc1 : cl.callee = .builtin .append) (hc2 : cl.args.toList = [x, y]) (hc3 : cl.argTypes.toList = [t, t]) (hg : guardS ops ns s o = some true) (hi : T t = some i) (hk : i.kind = .slice e) (hie : T e = some ie) (hx : opd ns s x = some .nilS) (hy : opd ns s y = some (.d (.list [])))
    (h : ExecS P r ns ops n lo ⟨setSlot s.slots o.dst .nilS, s.mem⟩ Q) : ExecS P r ns ops n (o :: lo) s Q :=
  ⟨hg, fun n' s' => n' = n ∧ s' = ⟨setSlot s.slots o.dst .nilS, s.mem⟩, fun W0 R0 B E a w hin hs hd K Q' hK => by
    rw [call_eq hc1 hc2 hc3] at ho
    have hu := slice_und (hT t i hi) hk
    have hsz := (hT e ie hie).sizeOf w
    obtain ⟨inf, z0, i1, i4, i2, i3, hzs, hz⟩ := zeros_reps (E := E) (w := w) hT hie
    have hxv := rep_nil (hs.opd hx)
    obtain ⟨u, hu'⟩ : ∃ u, a.eval y = u := ⟨_, rfl⟩
    have hr := hs.opd hy
    rw [hu'] at hr
    cases hr with
    | d _ _ hr =>
    cases hr with
    | list _ A c f q1 q2 q3 q4 q5 =>
    have hrun : (Builtin.append_ #[t, t] o.type #[.slice none 0 0, .slice A 0 c]).run P w = .ok (.slice none 0 0) w := by
      cases A with
      | none => simp [Builtin.append_, run_underlying hu, sizeOf, typeInfo, i1, Builtin.lenOf, Builtin.firstCells]
      | some ad =>
        have hfc := run_firstCells_some (P := P) w inf.size 0 ad 0 c [] (by simp) (by simp)
        simp [Builtin.append_, run_underlying hu, sizeOf, typeInfo, i1, Builtin.lenOf, hfc]
    refine oper_in (fun c e => by rw [ho] at e; cases e) ?_
    unfold Oper.wp
    have he : (execOp a.eval o).run P w = .ok (.value (.slice none 0 0)) w := by
      simp only [execOp, ho, resolve, invoke, builtin, Sem.run_bind, Sem.run_pure, Result.andThen_ok, List.map_toArray, List.map_cons, List.map_nil, hxv, hu', List.length_nil, hrun]
    rw [he]
    exact hK n _ E _ w ⟨rfl, rfl⟩ (hs.put hd .nilS), fun n' s' ⟨e1, e2⟩ => by rw [e1, e2]; exact h⟩
end Go.Proofs.Ytgiomfamlbmpcaa.Eng

noncomputable section
namespace Go.Proofs.Ytgiomfamlbmpcaa.Eng
open Go.RowKit
set_option maxRecDepth 100000 in
set_option maxHeartbeats 8000000 in
theorem grow_w (k : Nat) (hk : k ≤ 1000) (n : Nat) (m : Mem) : CWp Try.prog 83 [.nilS, .d (iD (k : Int))] n m fun y n' m' => n ≤ n' ∧ (∀ j, j < n → m' j = m j) ∧ ((k = 0 ∧ y = .nilS) ∨ (0 < k ∧ ∃ id, n ≤ id ∧ id < n' ∧ y = .own id 0 3 ∧ m' id = some (.row 54 3 [] false))) := by
  have w1 : IntKind.i64.wrap (k : Int) = (k : Int) := wrap64_in (by omega)
  have hn : ¬ (k : Int) < 0 := by omega
  have w0 : IntKind.i64.wrap 0 = 0 := wrap64_in (by omega)
  refine cwpK tabOk Try.func83 rfl rfl (show 2 ≤ _ by decide) rfl fun _ => ?_; simp only [Try.ntmps83]
  repeat (first | (with_reducible first | refine AWi.seqK fun _ => ?_ | refine AWi.blockK fun _ => ?_ | refine KI.go ?_) | (refine AWi.condK fun _ _ => ?_; simp [-getElem?_pos, z0, z1, z2, z0]) | ((first | refine AWi.ret ?_ | refine AWi.skip ?_ | refine AWi.exit ?_); try simp only [thenP]) | (with_reducible refine BB.go ?_; simp only [blockP, thenP, reduceIte]))
  refine AWi.region tabOk ?_
  simp [-getElem?_pos, z0, z1, z2]
  repeat (first | (with_reducible first | refine AWi.seqK fun _ => ?_ | refine AWi.blockK fun _ => ?_ | refine KI.go ?_) | (refine AWi.condK fun _ _ => ?_; simp [-getElem?_pos, z0, z1, z2, z0]) | ((first | refine AWi.ret ?_ | refine AWi.skip ?_ | refine AWi.exit ?_); try simp only [thenP]) | (with_reducible refine BB.go ?_; simp only [blockP, thenP, reduceIte]))
  refine AWi.region tabOk ?_
  simp [-getElem?_pos, z0, z1, z2, hn]
  repeat (first | (with_reducible first | refine AWi.seqK fun _ => ?_ | refine AWi.blockK fun _ => ?_ | refine KI.go ?_) | (refine AWi.condK fun _ _ => ?_; simp [-getElem?_pos, z0, z1, z2, z0]) | ((first | refine AWi.ret ?_ | refine AWi.skip ?_ | refine AWi.exit ?_); try simp only [thenP]) | (with_reducible refine BB.go ?_; simp only [blockP, thenP, reduceIte]))
  refine AWi.regionS ?_
  iterate 2 (with_reducible refine ExecS.auto tabOk ?_; simp [-getElem?_pos, z0, z1, z2, z0])
  refine ExecS.capNil tabOk rfl rfl rfl rfl rfl (TB22) rfl (by simp [-getElem?_pos, z0, z1, z2]) ?_
  iterate 5 (with_reducible refine ExecS.auto tabOk ?_; simp [-getElem?_pos, z0, z1, z2, w0, w1, Int.sub_zero])
  simp only [ExecS]
  repeat (first | (with_reducible first | refine AWi.seqK fun _ => ?_ | refine AWi.blockK fun _ => ?_ | refine KI.go ?_) | (refine AWi.condK fun _ _ => ?_; simp [-getElem?_pos, z0, z1, z2, z0]) | ((first | refine AWi.ret ?_ | refine AWi.skip ?_ | refine AWi.exit ?_); try simp only [thenP]) | (with_reducible refine BB.go ?_; simp only [blockP, thenP, reduceIte]))
  refine AWi.region tabOk ?_
  simp [-getElem?_pos, z0, z1, z2]
  by_cases hk0 : 0 < k
  · simp [hk0]
    repeat (first | (with_reducible first | refine AWi.seqK fun _ => ?_ | refine AWi.blockK fun _ => ?_ | refine KI.go ?_) | (refine AWi.condK fun _ _ => ?_; simp [-getElem?_pos, z0, z1, z2, hk0]) | ((first | refine AWi.ret ?_ | refine AWi.skip ?_ | refine AWi.exit ?_); try simp only [thenP]) | (with_reducible refine BB.go ?_; simp only [blockP, thenP, reduceIte]))
    refine AWi.regionS ?_
    iterate 2 (with_reducible refine ExecS.auto tabOk ?_; simp [-getElem?_pos, z0, z1, z2, z0])
    refine ExecS.capNil tabOk rfl rfl rfl rfl rfl (TB22) rfl (by simp [-getElem?_pos, z0, z1, z2]) ?_
    refine ExecS.sliceNil tabOk (kd := .i64) rfl rfl (TB22) rfl (TB54) (by simp [-getElem?_pos, z0, z1, z2]) (by simp [-getElem?_pos, z0, z1, z2]) ?_
    (with_reducible refine ExecS.auto tabOk ?_; simp [-getElem?_pos, z0, z1, z2, z0])
    refine ExecS.appendZ tabOk (k := k) (kd := .i64) rfl rfl rfl rfl rfl (TB22) rfl (TB3) rfl (TB54) (by simp [-getElem?_pos, z0, z1, z2]) (by simp [-getElem?_pos, z0, z1, z2]) hk0 (fitsB_small (by omega) (by simp)) ?_
    iterate 2 (with_reducible refine ExecS.auto tabOk ?_; simp [-getElem?_pos, z0, z1, z2, z0])
    refine ExecS.cut0 tabOk (id := n + 1 + 1 + 1 + 1 + 1 + 1 + 1 + 1 + 1 + 1 + 1 + 1 + 1 + 1 + 1) (k := k) (z := 3) (kd := .i64) rfl rfl (TB22) rfl (TB54) (by simp [-getElem?_pos, z0, z1, z2]) (by simp [-getElem?_pos, z0, z1, z2]) ?_
    (with_reducible refine ExecS.auto tabOk ?_; simp [-getElem?_pos, z0, z1, z2, z0])
    simp only [ExecS]
    repeat (first | (with_reducible first | refine AWi.seqK fun _ => ?_ | refine AWi.blockK fun _ => ?_ | refine KI.go ?_) | ((first | refine AWi.region tabOk ?_ | refine AWi.condK fun _ _ => ?_); simp [-getElem?_pos, z0, z1, z2, z0]) | ((first | refine AWi.ret ?_ | refine AWi.skip ?_ | refine AWi.exit ?_); try simp only [thenP]) | (with_reducible refine BB.go ?_; simp only [blockP, thenP, reduceIte]))
    exact RI.ret rfl ⟨by omega, fun j hj => by simp [show ¬ j = n + 1 + 1 + 1 + 1 + 1 + 1 + 1 + 1 + 1 + 1 + 1 + 1 + 1 + 1 + 1 by omega], .inr ⟨hk0, n + 1 + 1 + 1 + 1 + 1 + 1 + 1 + 1 + 1 + 1 + 1 + 1 + 1 + 1 + 1, by omega, by omega, rfl, by simp⟩⟩
  · simp [hk0]
    repeat (first | (with_reducible first | refine AWi.seqK fun _ => ?_ | refine AWi.blockK fun _ => ?_ | refine KI.go ?_) | ((first | refine AWi.region tabOk ?_ | refine AWi.condK fun _ _ => ?_); simp [-getElem?_pos, z0, z1, z2, hk0]) | ((first | refine AWi.ret ?_ | refine AWi.skip ?_ | refine AWi.exit ?_); try simp only [thenP]) | (with_reducible refine BB.go ?_; simp only [blockP, thenP, reduceIte]))
    exact RI.ret rfl ⟨by omega, fun j hj => rfl, .inl ⟨by omega, rfl⟩⟩
def sumK (a b : Nat) : Nat → Nat
  | 0 => 0
  | 1 => a
  | _ => a + b
def partK (l1 l2 : List HS) : Nat → List HS
  | 0 => []
  | 1 => l1
  | _ => l1 ++ l2
set_option maxRecDepth 100000 in
set_option maxHeartbeats 8000000 in
theorem concat_w (l1 l2 : List HS) (h1 : l1.length ≤ 100) (h2 : l2.length ≤ 100) (ida n : Nat) (m : Mem) {z : Bool} (hid : ida < n) (hm : m ida = some (.row 22 1 [[boxD l1], [boxD l2]] z)) : CWp Try.prog 67 [.own ida 2 1] n m fun y n' m' => n ≤ n' ∧ (∀ j, j < n → m' j = m j) ∧ ((l1 ++ l2 = [] ∧ y = .nilS) ∨ 0 < (l1 ++ l2).length ∧ ∃ id, n ≤ id ∧ id < n' ∧ y = .own id (l1 ++ l2).length 3 ∧ m' id = some (.row 54 3 (hsRows (l1 ++ l2)) false)) := by
  refine cwpK tabOk Try.func67 rfl rfl (show 1 ≤ _ by decide) rfl fun _ => ?_; simp only [Try.ntmps67]
  repeat (first | (with_reducible first | refine AWi.seqK fun _ => ?_ | refine AWi.blockK fun _ => ?_ | refine KI.go ?_) | ((first | refine AWi.region tabOk ?_ | refine AWi.condK fun _ _ => ?_); simp [-getElem?_pos, z0, z1, z2, z0]) | ((first | refine AWi.ret ?_ | refine AWi.skip ?_ | refine AWi.exit ?_); try simp only [thenP]) | (with_reducible refine BB.go ?_; simp only [blockP, thenP, reduceIte]))
  refine AWi.loopK (fun (k : Nat) n1 s => n ≤ n1 ∧ s.slots 0 = .own ida 2 1 ∧ s.slots 9 = .own ida 2 1 ∧ s.slots 10 = .d (iD 2) ∧ s.slots 11 = .d (iD k) ∧ s.slots 3 = .d (iD (sumK l1.length l2.length k : Nat)) ∧ (∀ j, j < n → s.mem j = m j) ∧ k ≤ 2) (fun k => 2 - k) 0 ?_ ?_
  · exact ⟨by omega, by simp, by simp, by simp [iD], by simp [iD], by simp [iD, sumK], fun j hj => by simp, by omega⟩
  rintro k n1 s ⟨hle, s0, s9, s10, s11, s3, low, hk⟩ kk
  have ma := (low ida hid).trans hm
  have hz1 : (∀ r : List Dat, r ∈ hsRows l1 → r.length = 3) = True := eq_true fun r hr => by obtain ⟨t, _, rfl⟩ := List.mem_map.1 hr; rfl
  have hz2 : (∀ r : List Dat, r ∈ hsRows l2 → r.length = 3) = True := eq_true fun r hr => by obtain ⟨t, _, rfl⟩ := List.mem_map.1 hr; rfl
  have hl1 : (hsRows l1).length = l1.length := by simp
  have hl2 : (hsRows l2).length = l2.length := by simp
  by_cases hlt : k < 2
  · rcases k with _ | _ | k
    · have w1 : IntKind.i64.wrap (l1.length : Int) = l1.length := wrap64_in (by omega)
      have hn : ¬ (l1.length : Int) < 0 := by omega
      have w2 : IntKind.i64.wrap 1 = 1 := wrap64_in (by omega)
      simp only [sumK] at s3
      repeat (first | (with_reducible first | refine AWi.seqK fun _ => ?_ | refine AWi.blockK fun _ => ?_ | refine KI.go ?_) | ((first | refine AWi.region tabOk ?_ | refine AWi.condK fun _ _ => ?_); simp [-getElem?_pos, z0, z1, z2, s0, s9, s10, s11, s3, ma, hl1, w1, hn, w2]) | ((first | refine AWi.ret ?_ | refine AWi.skip ?_ | refine AWi.exit ?_); try simp only [thenP]) | (with_reducible refine BB.go ?_; simp only [blockP, thenP, reduceIte]))
      refine LI.go 1 ⟨by omega, by simp [s0], by simp [s9], by simp [s10], by simp [iD], by simp [iD, sumK], low, by omega⟩ (by omega)
    · have w1 : IntKind.i64.wrap ((l1.length : Int) + l2.length) = (l1.length : Int) + l2.length := wrap64_in (by omega)
      have hn : ¬ (l1.length : Int) + l2.length < 0 := by omega
      have w2 : IntKind.i64.wrap 2 = 2 := wrap64_in (by omega)
      simp only [sumK] at s3
      repeat (first | (with_reducible first | refine AWi.seqK fun _ => ?_ | refine AWi.blockK fun _ => ?_ | refine KI.go ?_) | ((first | refine AWi.region tabOk ?_ | refine AWi.condK fun _ _ => ?_); simp [-getElem?_pos, z0, z1, z2, s0, s9, s10, s11, s3, ma, hl2, w1, hn, w2]) | ((first | refine AWi.ret ?_ | refine AWi.skip ?_ | refine AWi.exit ?_); try simp only [thenP]) | (with_reducible refine BB.go ?_; simp only [blockP, thenP, reduceIte]))
      refine LI.go 2 ⟨by omega, by simp [s0], by simp [s9], by simp [s10], by simp [iD], by simp [iD, sumK], low, by omega⟩ (by omega)
    · omega
  · obtain rfl : k = 2 := by omega
    repeat (first | (with_reducible first | refine AWi.seqK fun _ => ?_ | refine AWi.blockK fun _ => ?_ | refine KI.go ?_) | ((first | refine AWi.region tabOk ?_ | refine AWi.condK fun _ _ => ?_); simp [-getElem?_pos, z0, z1, z2, s0, s9, s10, s11, s3]) | ((first | refine AWi.ret ?_ | refine AWi.skip ?_ | refine AWi.exit ?_); try simp only [thenP]) | (with_reducible refine BB.go ?_; simp only [blockP, thenP, reduceIte]))
    refine ExecI.callC (grow_w (sumK l1.length l2.length 2) (by simp only [sumK]; omega) _ _) rfl (by simp [calleeS, evList]) ?_
    rintro y n2 m2 ⟨hn2, hm2, hy⟩
    simp [-getElem?_pos, z0, z1, z2]
    have low2 : ∀ j, j < n → m2 j = m j := fun j hj => (hm2 j (by omega)).trans (low j hj)
    have ma2 := (low2 ida hid).trans hm
    have hsum : sumK l1.length l2.length 2 = (l1 ++ l2).length := by simp [sumK]
    rw [hsum] at hy
    repeat (first | (with_reducible first | refine AWi.seqK fun _ => ?_ | refine AWi.blockK fun _ => ?_ | refine KI.go ?_) | ((first | refine AWi.region tabOk ?_ | refine AWi.condK fun _ _ => ?_); simp [-getElem?_pos, z0, z1, z2, s0]) | ((first | refine AWi.ret ?_ | refine AWi.skip ?_ | refine AWi.exit ?_); try simp only [thenP]) | (with_reducible refine BB.go ?_; simp only [blockP, thenP, reduceIte]))
    refine AWi.loopK (fun (k : Nat) n1 s => n2 ≤ n1 ∧ s.slots 25 = .own ida 2 1 ∧ s.slots 26 = .d (iD 2) ∧ s.slots 27 = .d (iD k) ∧ (∀ j, j < n → s.mem j = m j) ∧ k ≤ 2 ∧ ((l1 ++ l2 = [] ∧ s.slots 6 = .nilS) ∨ 0 < (l1 ++ l2).length ∧ ∃ id, n ≤ id ∧ id < n1 ∧ s.slots 6 = .own id (partK l1 l2 k).length 3 ∧ s.mem id = some (.row 54 3 (hsRows (partK l1 l2 k)) false))) (fun k => 2 - k) 0 ?_ ?_
    · refine ⟨by omega, by simp, by simp [iD], by simp [iD], fun j hj => low2 j hj, by omega, ?_⟩
      rcases hy with ⟨h0, rfl⟩ | ⟨h0, id, i1, i2, rfl, i3⟩
      · exact .inl ⟨List.length_eq_zero_iff.1 h0, by simp⟩
      · exact .inr ⟨h0, id, by omega, by omega, by simp [partK], i3⟩
    have fb : fitsB (l1.length) 24 = true := fitsB_small (by omega) (by omega)
    have fb2 : fitsB (l1.length + l2.length) 24 = true := fitsB_small (by omega) (by omega)
    rintro k n3 s3 ⟨hle3, t25, t26, t27, low3, hk3, hq⟩ kk3
    have ma3 := (low3 ida hid).trans hm
    by_cases hlt3 : k < 2
    · rcases k with _ | _ | k
      · have w2 : IntKind.i64.wrap 1 = 1 := wrap64_in (by omega)
        repeat (first | (with_reducible first | refine AWi.seqK fun _ => ?_ | refine AWi.blockK fun _ => ?_ | refine KI.go ?_) | (refine AWi.condK fun _ _ => ?_; simp [-getElem?_pos, z0, z1, z2, z0]) | ((first | refine AWi.ret ?_ | refine AWi.skip ?_ | refine AWi.exit ?_); try simp only [thenP]) | (with_reducible refine BB.go ?_; simp only [blockP, thenP, reduceIte]))
        refine AWi.region tabOk ?_
        simp [-getElem?_pos, z0, z1, z2, t26, t27]
        repeat (first | (with_reducible first | refine AWi.seqK fun _ => ?_ | refine AWi.blockK fun _ => ?_ | refine KI.go ?_) | (refine AWi.condK fun _ _ => ?_; simp [-getElem?_pos, z0, z1, z2, z0]) | ((first | refine AWi.ret ?_ | refine AWi.skip ?_ | refine AWi.exit ?_); try simp only [thenP]) | (with_reducible refine BB.go ?_; simp only [blockP, thenP, reduceIte]))
        refine AWi.region tabOk ?_
        simp [-getElem?_pos, z0, z1, z2, t25, t27, ma3]
        repeat (first | (with_reducible first | refine AWi.seqK fun _ => ?_ | refine AWi.blockK fun _ => ?_ | refine KI.go ?_) | (refine AWi.condK fun _ _ => ?_; simp [-getElem?_pos, z0, z1, z2, z0]) | ((first | refine AWi.ret ?_ | refine AWi.skip ?_ | refine AWi.exit ?_); try simp only [thenP]) | (with_reducible refine BB.go ?_; simp only [blockP, thenP, reduceIte]))
        rcases hq with ⟨q1, q2⟩ | ⟨q0, id, q1, q2, q3, q4⟩
        · obtain ⟨rfl, rfl⟩ := List.append_eq_nil_iff.1 q1
          refine AWi.regionS ?_
          iterate 2 (with_reducible refine ExecS.auto tabOk ?_; simp [-getElem?_pos, z0, z1, z2, q2])
          refine ExecS.append0 tabOk rfl rfl rfl rfl rfl (TB22) rfl (TB54) (by simp [-getElem?_pos, z0, z1, z2]) (by simp [-getElem?_pos, z0, z1, z2]) ?_
          (with_reducible refine ExecS.auto tabOk ?_; simp [-getElem?_pos, z0, z1, z2, z0])
          simp only [ExecS]
          repeat (first | (with_reducible first | refine AWi.seqK fun _ => ?_ | refine AWi.blockK fun _ => ?_ | refine KI.go ?_) | ((first | refine AWi.region tabOk ?_ | refine AWi.condK fun _ _ => ?_); simp [-getElem?_pos, z0, z1, z2, t27, w2]) | ((first | refine AWi.ret ?_ | refine AWi.skip ?_ | refine AWi.exit ?_); try simp only [thenP]) | (with_reducible refine BB.go ?_; simp only [blockP, thenP, reduceIte]))
          refine LI.go 1 ⟨by omega, by simp [t25], by simp [t26], by simp [iD], fun j hj => low3 j hj, by omega, .inl ⟨rfl, by simp⟩⟩ (by omega)
        · refine AWi.region tabOk ?_
          simp [-getElem?_pos, z0, z1, z2, q3, q4, partK, fb, fb2, hz1, hz2, hl1, hl2]
          repeat (first | (with_reducible first | refine AWi.seqK fun _ => ?_ | refine AWi.blockK fun _ => ?_ | refine KI.go ?_) | ((first | refine AWi.region tabOk ?_ | refine AWi.condK fun _ _ => ?_); simp [-getElem?_pos, z0, z1, z2, t27, w2]) | ((first | refine AWi.ret ?_ | refine AWi.skip ?_ | refine AWi.exit ?_); try simp only [thenP]) | (with_reducible refine BB.go ?_; simp only [blockP, thenP, reduceIte]))
          refine LI.go 1 ⟨by omega, by simp [t25], by simp [t26], by simp [iD], fun j hj => by simp [show ¬ j = n3 + 1 + 1 + 1 + 1 + 1 + 1 by omega, show ¬ j = id by omega, low3 j hj], by omega, .inr ⟨q0, n3 + 1 + 1 + 1 + 1 + 1 + 1, by omega, by omega, by simp [partK], by simp [partK]⟩⟩ (by omega)
      · have w2 : IntKind.i64.wrap 2 = 2 := wrap64_in (by omega)
        repeat (first | (with_reducible first | refine AWi.seqK fun _ => ?_ | refine AWi.blockK fun _ => ?_ | refine KI.go ?_) | (refine AWi.condK fun _ _ => ?_; simp [-getElem?_pos, z0, z1, z2, z0]) | ((first | refine AWi.ret ?_ | refine AWi.skip ?_ | refine AWi.exit ?_); try simp only [thenP]) | (with_reducible refine BB.go ?_; simp only [blockP, thenP, reduceIte]))
        refine AWi.region tabOk ?_
        simp [-getElem?_pos, z0, z1, z2, t26, t27]
        repeat (first | (with_reducible first | refine AWi.seqK fun _ => ?_ | refine AWi.blockK fun _ => ?_ | refine KI.go ?_) | (refine AWi.condK fun _ _ => ?_; simp [-getElem?_pos, z0, z1, z2, z0]) | ((first | refine AWi.ret ?_ | refine AWi.skip ?_ | refine AWi.exit ?_); try simp only [thenP]) | (with_reducible refine BB.go ?_; simp only [blockP, thenP, reduceIte]))
        refine AWi.region tabOk ?_
        simp [-getElem?_pos, z0, z1, z2, t25, t27, ma3]
        repeat (first | (with_reducible first | refine AWi.seqK fun _ => ?_ | refine AWi.blockK fun _ => ?_ | refine KI.go ?_) | (refine AWi.condK fun _ _ => ?_; simp [-getElem?_pos, z0, z1, z2, z0]) | ((first | refine AWi.ret ?_ | refine AWi.skip ?_ | refine AWi.exit ?_); try simp only [thenP]) | (with_reducible refine BB.go ?_; simp only [blockP, thenP, reduceIte]))
        rcases hq with ⟨q1, q2⟩ | ⟨q0, id, q1, q2, q3, q4⟩
        · obtain ⟨rfl, rfl⟩ := List.append_eq_nil_iff.1 q1
          refine AWi.regionS ?_
          iterate 2 (with_reducible refine ExecS.auto tabOk ?_; simp [-getElem?_pos, z0, z1, z2, q2])
          refine ExecS.append0 tabOk rfl rfl rfl rfl rfl (TB22) rfl (TB54) (by simp [-getElem?_pos, z0, z1, z2]) (by simp [-getElem?_pos, z0, z1, z2]) ?_
          (with_reducible refine ExecS.auto tabOk ?_; simp [-getElem?_pos, z0, z1, z2, z0])
          simp only [ExecS]
          repeat (first | (with_reducible first | refine AWi.seqK fun _ => ?_ | refine AWi.blockK fun _ => ?_ | refine KI.go ?_) | ((first | refine AWi.region tabOk ?_ | refine AWi.condK fun _ _ => ?_); simp [-getElem?_pos, z0, z1, z2, t27, w2]) | ((first | refine AWi.ret ?_ | refine AWi.skip ?_ | refine AWi.exit ?_); try simp only [thenP]) | (with_reducible refine BB.go ?_; simp only [blockP, thenP, reduceIte]))
          refine LI.go 2 ⟨by omega, by simp [t25], by simp [t26], by simp [iD], fun j hj => low3 j hj, by omega, .inl ⟨rfl, by simp⟩⟩ (by omega)
        · refine AWi.region tabOk ?_
          simp [-getElem?_pos, z0, z1, z2, q3, q4, partK, fb, fb2, hz1, hz2, hl1, hl2]
          repeat (first | (with_reducible first | refine AWi.seqK fun _ => ?_ | refine AWi.blockK fun _ => ?_ | refine KI.go ?_) | ((first | refine AWi.region tabOk ?_ | refine AWi.condK fun _ _ => ?_); simp [-getElem?_pos, z0, z1, z2, t27, w2]) | ((first | refine AWi.ret ?_ | refine AWi.skip ?_ | refine AWi.exit ?_); try simp only [thenP]) | (with_reducible refine BB.go ?_; simp only [blockP, thenP, reduceIte]))
          refine LI.go 2 ⟨by omega, by simp [t25], by simp [t26], by simp [iD], fun j hj => by simp [show ¬ j = n3 + 1 + 1 + 1 + 1 + 1 + 1 by omega, show ¬ j = id by omega, low3 j hj], by omega, .inr ⟨q0, n3 + 1 + 1 + 1 + 1 + 1 + 1, by omega, by omega, by simp [partK], by simp [partK, hsRows]⟩⟩ (by omega)
      · omega
    · obtain rfl : k = 2 := by omega
      rcases hq with ⟨q1, q2⟩ | ⟨q0, id, q1, q2, q3, q4⟩
      · repeat (first | (with_reducible first | refine AWi.seqK fun _ => ?_ | refine AWi.blockK fun _ => ?_ | refine KI.go ?_) | ((first | refine AWi.region tabOk ?_ | refine AWi.condK fun _ _ => ?_); simp [-getElem?_pos, z0, z1, z2, t25, t26, t27, q2]) | ((first | refine AWi.ret ?_ | refine AWi.skip ?_ | refine AWi.exit ?_); try simp only [thenP]) | (with_reducible refine BB.go ?_; simp only [blockP, thenP, reduceIte]))
        exact RI.ret rfl ⟨by omega, low3, .inl ⟨q1, rfl⟩⟩
      · repeat (first | (with_reducible first | refine AWi.seqK fun _ => ?_ | refine AWi.blockK fun _ => ?_ | refine KI.go ?_) | ((first | refine AWi.region tabOk ?_ | refine AWi.condK fun _ _ => ?_); simp [-getElem?_pos, z0, z1, z2, t25, t26, t27, q3]) | ((first | refine AWi.ret ?_ | refine AWi.skip ?_ | refine AWi.exit ?_); try simp only [thenP]) | (with_reducible refine BB.go ?_; simp only [blockP, thenP, reduceIte]))
        exact RI.ret rfl ⟨by omega, low3, .inr ⟨q0, id, q1, by omega, rfl, q4⟩⟩
end Go.Proofs.Ytgiomfamlbmpcaa.Eng

noncomputable section
namespace Go.Proofs.Ytgiomfamlbmpcaa.Eng
open Go.RowKit
theorem concat_r (l1 l2 : List HS) (h1 : l1.length ≤ 100) (h2 : l2.length ≤ 100) (ida : Nat) (m : Mem) {z : Bool} (hm : m ida = some (.row 22 1 [[boxD l1], [boxD l2]] z)) : RCall Try.prog 67 [.own ida 2 1] (boxD (l1 ++ l2)) m := by
  by_cases h : l1 ++ l2 = []
  · rw [h]
    refine RCall.of4 (n0 := ida + 1) fun n hn => (concat_w l1 l2 h1 h2 ida n m (by omega) hm).mono ?_
    rintro y n' m' ⟨q1, q2, ⟨q3, rfl⟩ | ⟨q0, id, q3, q4, rfl, q5⟩⟩
    · exact ⟨rfl, q2⟩
    · rw [h] at q0
      exact absurd q0 (by simp)
  · refine RCall.ofOwn (n0 := ida + 1) fun n hn => (concat_w l1 l2 h1 h2 ida n m (by omega) hm).mono ?_
    rintro y n' m' ⟨q1, q2, ⟨q3, rfl⟩ | ⟨q0, id, q3, q4, rfl, q5⟩⟩
    · exact absurd q3 h
    · exact ⟨⟨id, 3, _, q3, by rw [hsRows_len], q5⟩, q2⟩
def woS (l : List HS) (i : Nat) : List HS := l.take i ++ l.drop (i + 1)
def spareL (l : List HS) (e g : HE) (k i : Nat) : List Int := ((List.range i).filter fun j => decide (needN (woS l j) g e = some k)).map fun j : Nat => (j : Int)
def spareO (l : List HS) (e g : HE) : List Int := if chkErr l [e, g] = 0 then (match needN l g e with
  | some k => spareL l e g k l.length
  | none => []) else []
theorem woS_ok {l : List HS} (h : l.all okS = true) (i : Nat) : (woS l i).all okS = true := by
  rw [List.all_eq_true] at h ⊢
  intro s hs
  rcases List.mem_append.1 hs with hs | hs
  · exact h s (List.mem_of_mem_take hs)
  · exact h s (List.mem_of_mem_drop hs)
theorem woS_len (l : List HS) (i : Nat) : (woS l i).length ≤ l.length := by
  rw [woS, List.length_append, List.length_take, List.length_drop]
  omega
theorem hsRows_take (l : List HS) (i : Nat) : (hsRows l).take i = hsRows (l.take i) := by simp [hsRows]
theorem hsRows_drop (l : List HS) (i : Nat) : (hsRows l).drop i = hsRows (l.drop i) := by simp [hsRows]
set_option maxRecDepth 100000 in
set_option maxHeartbeats 8000000 in
theorem spare_ok (l : List HS) (e g : HE) (n : Nat) (m : Mem) (h0 : chkErr l [e, g] = 0) {k : Nat} (hneed : needN l g e = some k) :
    CWp Try.prog 36 [.d (boxD l), .d (edgD e), .d (edgD g)] n m fun y _ m' => toD4 y = some (.tup [intL (spareL l e g k l.length), iD 0]) ∧ ∀ j, j < n → m' j = m j := by
  obtain ⟨hb, hes⟩ := chkOk h0
  have ge := goodE (e := e) (by simp at hes; exact hes.1)
  have gg := goodE (e := g) (by simp at hes; exact hes.2)
  obtain ⟨hk1, hk2⟩ := rows_take hneed
  have hn6 := hb.n2
  refine cwpK tabOk Try.func36 rfl rfl (show 3 ≤ _ by decide) rfl fun _ => ?_; simp only [Try.ntmps36]
  repeat (first | (with_reducible first | refine AWi.seqK fun _ => ?_ | refine AWi.blockK fun _ => ?_ | refine KI.go ?_) | ((first | refine AWi.region tabOk ?_ | refine AWi.condK fun _ _ => ?_); simp [-getElem?_pos, z0, z1, z2, z0]) | ((first | refine AWi.ret ?_ | refine AWi.skip ?_ | refine AWi.exit ?_); try simp only [thenP]) | (with_reducible refine BB.go ?_; simp only [blockP, thenP, reduceIte]))
  refine ExecI.callC (checkReach_w l e g _ _) rfl (by simp [calleeS, evList]) ?_
  rintro y n1 m1 ⟨hn1, hm1, hy⟩
  have hlow : ∀ j, j < n → m1 j = m j := fun j hj => (hm1 j (by omega)).trans (by (try dsimp only); repeat (first | rw [setMem_lt (by omega)] | rw [putN_lt (by omega)]))
  have he : m1 n = some (.box 24 [.d (iD e.depth), .d (iD e.burr)] false) := (hm1 n (by omega)).trans (by simp)
  have hg : m1 (n + 1) = some (.box 24 [.d (iD g.depth), .d (iD g.burr)] false) := (hm1 (n + 1) (by omega)).trans (by simp)
  rw [if_pos h0, hneed] at hy
  obtain ⟨c, rfl, x, q1, q2, q3, q4⟩ := hy
  rw [RowsV, hk1] at q4
  have hlx : lenSV x = some k := by
    rcases q4 with ⟨h, rfl⟩ | ⟨id, -, -, rfl, -⟩
    · have := congrArg List.length h
      rw [hk1] at this
      rw [this]; rfl
    · rfl
  have hll : (hsRows l).length = l.length := hsRows_len l
  simp [-getElem?_pos, z0, z1, z2]
  repeat (first | (with_reducible first | refine AWi.seqK fun _ => ?_ | refine AWi.blockK fun _ => ?_ | refine KI.go ?_) | ((first | refine AWi.region tabOk ?_ | refine AWi.condK fun _ _ => ?_); simp [-getElem?_pos, z0, z1, z2, q3, hll]) | ((first | refine AWi.ret ?_ | refine AWi.skip ?_ | refine AWi.exit ?_); try simp only [thenP]) | (with_reducible refine BB.go ?_; simp only [blockP, thenP, reduceIte]))
  refine AWi.loopK (fun (i : Nat) n2 s => n1 ≤ n2 ∧ s.slots 4 = .ptr n 0 0 ∧ s.slots 5 = .ptr (n + 1) 0 0 ∧ s.slots 8 = .ptr c 0 0 ∧ s.slots 10 = listV (spareL l e g k i) ∧ s.slots 30 = .d (iD l.length) ∧ s.slots 31 = .d (iD i) ∧ (∀ j, j < n1 → s.mem j = m1 j) ∧ i ≤ l.length) (fun i => l.length - i) 0 ?_ ?_
  · exact ⟨by omega, by simp, by simp, by simp, by simp [spareL, listV], by simp [iD], by simp [iD], fun j hj => rfl, by omega⟩
  rintro i n2 s ⟨hle, s4, s5, s8, s10, s30, s31, low, hi⟩ kk
  have hlen : (spareL l e g k i).length ≤ 6 := by
    rw [spareL, List.length_map]
    exact Nat.le_trans (List.length_filter_le _ _) (by simp; omega)
  by_cases hlt : i < l.length
  · have hii : (i : Int) < (l.length : Int) := by omega
    have w1 : IntKind.i64.wrap ((i : Int) + 1) = (i : Int) + 1 := wrap64_in (by omega)
    have hi0 : (0 : Int) ≤ (i : Int) + 1 := by omega
    have hil : (i : Int) + 1 ≤ (l.length : Int) := by omega
    have hil2 : (i : Int) ≤ (l.length : Int) := by omega
    have mc : s.mem c = some (.box 81 [.d (boxD l), x] false) := (low c (by omega)).trans q3
    have c1 : c < n2 + 1 + 1 := by omega
    have hz : (∀ r : List Dat, r ∈ hsRows l → r.length = 3) = True := eq_true fun r hr => by obtain ⟨t, _, rfl⟩ := List.mem_map.1 hr; rfl
    have ht1 := hsRows_take l i
    have ht2 := hsRows_drop l (i + 1)
    repeat (first | (with_reducible first | refine AWi.seqK fun _ => ?_ | refine AWi.blockK fun _ => ?_ | refine KI.go ?_) | ((first | refine AWi.region tabOk ?_ | refine AWi.condK fun _ _ => ?_); simp [-getElem?_pos, z0, z1, z2, s31, s30, hii]) | ((first | refine AWi.ret ?_ | refine AWi.skip ?_ | refine AWi.exit ?_); try simp only [thenP]) | (with_reducible refine BB.go ?_; simp only [blockP, thenP, reduceIte]))
    have htt : List.take l.length (hsRows l) = hsRows l := List.take_of_length_le (by omega)
    refine AWi.mono (Q := fun ex n3 s3 => ex = .normal ∧ n3 = n2 + 1 + 1 + 1 + 1 + 1 ∧ s3.slots 4 = .ptr n 0 0 ∧ s3.slots 5 = .ptr (n + 1) 0 0 ∧ s3.slots 8 = .ptr c 0 0 ∧ s3.slots 10 = listV (spareL l e g k i) ∧ s3.slots 11 = .d (iD i) ∧ s3.slots 12 = .ptr (n2 + 1 + 1 + 1 + 1) 0 0 ∧ s3.slots 30 = .d (iD l.length) ∧ s3.slots 31 = .d (iD i) ∧ s3.mem (n2 + 1 + 1 + 1 + 1) = some (.box 65 [.d (boxD (woS l i))] false) ∧ ∀ j, j < n1 → s3.mem j = m1 j) ?_ ?_
    · refine AWi.drawsV mixedH (by kernel_rfl) ?_
      repeat (with_reducible refine ExecV.auto tabOk ?_; simp [-getElem?_pos, z0, z1, z2, kindV, isPure, s8, mc, c1, hz, hll, hii, hil, hil2, hi0, w1, ht1, ht2, htt]; try (refine And.intro (OkV_old (by simp; try omega) (by omega) (by simp [AllAcc])) ?_))
      refine ExecV.ro (x := .d (boxD (woS l i))) (svs := [.own (n2 + 1 + 1 + 1) 2 1]) [n2 + 1 + 1 + 1] (concat_r (l.take i) (l.drop (i + 1)) (by rw [List.length_take]; omega) (by rw [List.length_drop]; omega) (n2 + 1 + 1 + 1) _ (z := false) (by simp)) rfl rfl (by simp [calleeS, evList]) ?_ ?_
      · (refine OkV_last (by simp; try omega) ?_; repeat' (first | exact trivial | refine And.intro (show ordB _ _ _ = true from by kernel_rfl) ?_))
      repeat (with_reducible refine ExecV.auto tabOk ?_; simp [-getElem?_pos, z0, z1, z2, kindV, isPure, z0]; try (refine And.intro (OkV_old (by simp; try omega) (by omega) (by simp [AllAcc])) ?_))
      refine And.intro ?_ ?_
      · (refine OkV_last (by simp; try omega) ?_; repeat' (first | exact trivial | refine And.intro (show ordB _ _ _ = true from by kernel_rfl) ?_))
      unfold ExecV
      refine ⟨rfl, by simp [s4], by simp [s5], by simp [s8], by simp [s10], by simp, by simp, by simp [s30], by simp [s31], by simp, fun j hj => by simp [show ¬ j = n2 + 1 + 1 + 1 + 1 by omega, show ¬ j = n2 + 1 + 1 + 1 by omega, low j hj]⟩
    rintro ex n3 s3 ⟨rfl, hn3, t4, t5, t8, t10, t11, t12, t30, t31, mb, low3⟩
    have he3 := (low3 n (by omega)).trans he
    have hg3 := (low3 (n + 1) (by omega)).trans hg
    have hbx : n2 + 1 + 1 + 1 + 1 < n3 := by omega
    have c2 : n < n3 := by omega
    have c3 : n + 1 < n3 := by omega
    have c4 : n1 ≤ n3 := by omega
    generalize n2 + 1 + 1 + 1 + 1 = bx at *
    simp only [thenP]
    repeat (first | (with_reducible first | refine AWi.seqK fun _ => ?_ | refine AWi.blockK fun _ => ?_ | refine KI.go ?_) | (refine AWi.condK fun _ _ => ?_; simp [-getElem?_pos, z0, z1, z2, z0]) | ((first | refine AWi.ret ?_ | refine AWi.skip ?_ | refine AWi.exit ?_); try simp only [thenP]) | (with_reducible refine BB.go ?_; simp only [blockP, thenP, reduceIte]))
    refine AWi.drawsM mixedH 4 (by kernel_rfl) (by kernel_rfl) (by kernel_rfl) ?_
    simp only [List.take_succ_cons, List.take_zero]
    repeat (with_reducible refine ExecV.auto tabOk ?_; simp [-getElem?_pos, z0, z1, z2, kindV, isPure, t4, t5, t12, mb, he3, hg3, c2, c3, hbx]; try (refine And.intro (OkV_old (by simp; try omega) (by omega) (by simp [AllAcc])) ?_))
    refine ExecV.callP [] (reaches_n g _ _) (by omega) (fun i hi => by cases hi) rfl (by simp [calleeS, evList]) (OkV_old (by simp) (by omega) (by simp [AllAcc])) ?_
    refine ⟨_, stepI_call (by simp [calleeS, evList]) (course_w (woS l i) (woS_ok hb.all i) (Nat.le_trans (woS_len l i) hn6) g gg e ge n3 _ _ (by omega) ⟨false, (if_pos ⟨Nat.le_refl _, by omega⟩).trans (if_pos rfl)⟩), ?_⟩
    rintro n4 s4' ⟨y, m', ⟨hn4, hm4, hy⟩, rfl⟩
    simp only [restO, List.drop_succ_cons, List.drop_zero, List.map_cons, List.map_nil, shiftO]
    have low4 : ∀ j, j < n1 → m' j = m1 j := fun j hj => (hm4 j (by omega)).trans ((putN_lt (by omega)).trans (low3 j hj))
    have mc4 : m' c = some (.box 81 [.d (boxD l), x] false) := (low4 c (by omega)).trans q3
    have hnext : spareL l e g k (i + 1) = if needN (woS l i) g e = some k then spareL l e g k i ++ [(i : Int)] else spareL l e g k i := by
      rw [spareL, List.range_succ, List.filter_append, List.map_append]
      by_cases h : needN (woS l i) g e = some k <;> simp [h, spareL]
    obtain ⟨k2, hneed2⟩ | hneed2 : (∃ k2, needN (woS l i) g e = some k2) ∨ needN (woS l i) g e = none := by
      cases needN (woS l i) g e
      · exact .inr rfl
      · exact .inl ⟨_, rfl⟩
    · rw [hneed2] at hy
      obtain ⟨c5, rfl, x5, p1, p2, p3, p4⟩ := hy
      have hk5 := (rows_take hneed2).1
      rw [RowsV, hk5] at p4
      have hlx5 : lenSV x5 = some k2 := by
        rcases p4 with ⟨h, rfl⟩ | ⟨id, -, -, rfl, -⟩
        · have := congrArg List.length h
          rw [hk5] at this
          rw [this]; rfl
        · rfl
      repeat (with_reducible refine ExecV.auto tabOk ?_; simp [-getElem?_pos, z0, z1, z2, kindV, isPure, z0]; try (refine And.intro (OkV_old (by simp; try omega) (by omega) (by simp [AllAcc])) ?_))
      unfold ExecV
      simp only [thenP]
      repeat (first | (with_reducible first | refine AWi.seqK fun _ => ?_ | refine AWi.blockK fun _ => ?_ | refine KI.go ?_) | (refine AWi.condK fun _ _ => ?_; simp [-getElem?_pos, z0, z1, z2, z0]) | ((first | refine AWi.ret ?_ | refine AWi.skip ?_ | refine AWi.exit ?_); try simp only [thenP]) | (with_reducible refine BB.go ?_; simp only [blockP, thenP, reduceIte]))
      have d1 : c < n4 := by omega
      have d2 : c5 < n4 := by omega
      have hkk : ((k2 : Int) = (k : Int)) = (k2 = k) := by simp [Int.natCast_inj]
      refine AWi.mono (Q := fun ex n5 s5 => ex = .normal ∧ n4 ≤ n5 ∧ s5.slots 4 = .ptr n 0 0 ∧ s5.slots 5 = .ptr (n + 1) 0 0 ∧ s5.slots 8 = .ptr c 0 0 ∧ s5.slots 10 = listV (spareL l e g k i) ∧ s5.slots 11 = .d (iD i) ∧ s5.slots 30 = .d (iD l.length) ∧ s5.slots 31 = .d (iD i) ∧ s5.slots 73 = .d (bD (decide (k2 = k))) ∧ ∀ j, j < n1 → s5.mem j = m1 j) ?_ ?_
      · refine AWi.drawsV mixedH (by kernel_rfl) ?_
        have e4 : ∀ id, id < n1 → id < n4 := fun id h => by omega
        rcases q4 with ⟨-, rfl⟩ | ⟨ix, ix1, ix2, rfl, -⟩ <;> rcases p4 with ⟨-, rfl⟩ | ⟨iy, iy1, iy2, rfl, -⟩ <;> simp only [lenSV, Option.some.injEq] at hlx hlx5 <;> (try subst hlx) <;> (try subst hlx5)
        all_goals
          repeat (with_reducible refine ExecV.auto tabOk ?_; simp [-getElem?_pos, z0, z1, z2, kindV, isPure, t8, mc4, p3, d1, d2]; try (refine And.intro (OkV_old (by simp; try omega) (by omega) (by simp [AllAcc])) ?_))
          unfold ExecV
          try simp only [thenP]
        all_goals
          refine ⟨by omega, by simp [t4], by simp [t5], by simp [t8], by simp [t10], by simp [t11], by simp [t30], by simp [t31], ?_, low4⟩
          simp [Int.natCast_inj, eq_comm]
      rintro ex n5 s5 ⟨rfl, hn5, u4, u5, u8, u10, u11, u30, u31, u73, low5⟩
      simp only [thenP]
      by_cases hkq : k2 = k
      · subst hkq
        rw [if_pos hneed2] at hnext
        rw [decide_eq_true rfl] at u73
        repeat (first | (with_reducible first | refine AWi.seqK fun _ => ?_ | refine AWi.blockK fun _ => ?_ | refine KI.go ?_) | ((first | refine AWi.region tabOk ?_ | refine AWi.condK fun _ _ => ?_); simp [-getElem?_pos, z0, z1, z2, u73, u10, u11]) | ((first | refine AWi.ret ?_ | refine AWi.skip ?_ | refine AWi.exit ?_); try simp only [thenP]) | (with_reducible refine BB.go ?_; simp only [blockP, thenP, reduceIte]))
        refine ExecI.callC ((RCall.ofA4 (grown_c (spareL l e g k2 i) (i : Int) (by omega)) (svs := [listV (spareL l e g k2 i), .d (iD (i : Int))]) (by rw [mapO, listV_toD]; rfl) _).cwp (fun _ _ h => h) (x := .d (intL (spareL l e g k2 i ++ [(i : Int)]))) rfl _) rfl (by simp [calleeS, evList, iD]) ?_
        rintro y n9 m9 ⟨rfl, rfl, rfl⟩
        simp [-getElem?_pos, z0, z1, z2]
        repeat (first | (with_reducible first | refine AWi.seqK fun _ => ?_ | refine AWi.blockK fun _ => ?_ | refine KI.go ?_) | ((first | refine AWi.region tabOk ?_ | refine AWi.condK fun _ _ => ?_); simp [-getElem?_pos, z0, z1, z2, u31, w1]) | ((first | refine AWi.ret ?_ | refine AWi.skip ?_ | refine AWi.exit ?_); try simp only [thenP]) | (with_reducible refine BB.go ?_; simp only [blockP, thenP, reduceIte]))
        refine LI.go (i + 1) ⟨by omega, by simp [u4], by simp [u5], by simp [u8], ?_, by simp [u30], by simp [iD], low5, by omega⟩ (by omega)
        rw [hnext]
        cases spareL l e g k2 i <;> simp [listV]
      · rw [if_neg (by rw [hneed2]; simpa using hkq)] at hnext
        rw [decide_eq_false hkq] at u73
        repeat (first | (with_reducible first | refine AWi.seqK fun _ => ?_ | refine AWi.blockK fun _ => ?_ | refine KI.go ?_) | ((first | refine AWi.region tabOk ?_ | refine AWi.condK fun _ _ => ?_); simp [-getElem?_pos, z0, z1, z2, u73, u31, w1]) | ((first | refine AWi.ret ?_ | refine AWi.skip ?_ | refine AWi.exit ?_); try simp only [thenP]) | (with_reducible refine BB.go ?_; simp only [blockP, thenP, reduceIte]))
        exact LI.go (i + 1) ⟨by omega, by simp [u4], by simp [u5], by simp [u8], by simp [hnext, u10], by simp [u30], by simp [iD], low5, by omega⟩ (by omega)
    · rw [hneed2] at hy
      subst hy
      rw [if_neg (by rw [hneed2]; simp)] at hnext
      repeat (with_reducible refine ExecV.auto tabOk ?_; simp [-getElem?_pos, z0, z1, z2, kindV, isPure, z0]; try (refine And.intro (OkV_old (by simp; try omega) (by omega) (by simp [AllAcc])) ?_))
      unfold ExecV
      simp only [thenP]
      repeat (first | (with_reducible first | refine AWi.seqK fun _ => ?_ | refine AWi.blockK fun _ => ?_ | refine KI.go ?_) | (refine AWi.condK fun _ _ => ?_; simp [-getElem?_pos, z0, z1, z2, z0]) | ((first | refine AWi.ret ?_ | refine AWi.skip ?_ | refine AWi.exit ?_); try simp only [thenP]) | (with_reducible refine BB.go ?_; simp only [blockP, thenP, reduceIte]))
      refine AWi.drawsV mixedH (by kernel_rfl) ?_
      repeat (with_reducible refine ExecV.auto tabOk ?_; simp [-getElem?_pos, z0, z1, z2, kindV, isPure, t8, mc4]; try (refine And.intro (OkV_old (by simp; try omega) (by omega) (by simp [AllAcc])) ?_))
      unfold ExecV
      try simp only [thenP]
      repeat (first | (with_reducible first | refine AWi.seqK fun _ => ?_ | refine AWi.blockK fun _ => ?_ | refine KI.go ?_) | ((first | refine AWi.region tabOk ?_ | refine AWi.condK fun _ _ => ?_); simp [-getElem?_pos, z0, z1, z2, t31, w1]) | ((first | refine AWi.ret ?_ | refine AWi.skip ?_ | refine AWi.exit ?_); try simp only [thenP]) | (with_reducible refine BB.go ?_; simp only [blockP, thenP, reduceIte]))
      exact LI.go (i + 1) ⟨by omega, by simp [t4], by simp [t5], by simp [t8], by simp [hnext, t10], by simp [t30], by simp [iD], low4, by omega⟩ (by omega)
  · obtain rfl : i = l.length := by omega
    repeat (first | (with_reducible first | refine AWi.seqK fun _ => ?_ | refine AWi.blockK fun _ => ?_ | refine KI.go ?_) | ((first | refine AWi.region tabOk ?_ | refine AWi.condK fun _ _ => ?_); simp [-getElem?_pos, z0, z1, z2, s10, s30, s31]) | ((first | refine AWi.ret ?_ | refine AWi.skip ?_ | refine AWi.exit ?_); try simp only [thenP]) | (with_reducible refine BB.go ?_; simp only [blockP, thenP, reduceIte]))
    refine ExecI.callC ((RCall.ofA4 (taken_c (spareL l e g k l.length) (by omega)) (svs := [listV (spareL l e g k l.length)]) (by rw [mapO, listV_toD]; rfl) _).cwp (fun _ _ h => h) (x := .d (intL (spareL l e g k l.length))) rfl _) rfl (by simp [calleeS, evList]) ?_
    rintro y n9 m9 ⟨rfl, rfl, rfl⟩
    simp [-getElem?_pos, z0, z1, z2]
    repeat (first | (with_reducible first | refine AWi.seqK fun _ => ?_ | refine AWi.blockK fun _ => ?_ | refine KI.go ?_) | ((first | refine AWi.region tabOk ?_ | refine AWi.condK fun _ _ => ?_); simp [-getElem?_pos, z0, z1, z2, z0]) | ((first | refine AWi.ret ?_ | refine AWi.skip ?_ | refine AWi.exit ?_); try simp only [thenP]) | (with_reducible refine BB.go ?_; simp only [blockP, thenP, reduceIte]))
    exact RI.ret rfl ⟨rfl, fun j hj => (low j (by omega)).trans (hlow j hj)⟩
set_option maxRecDepth 100000 in
set_option maxHeartbeats 8000000 in
theorem spare_no (l : List HS) (e g : HE) (n : Nat) (m : Mem) (h : reachE l g e ≠ 0) :
    CWp Try.prog 36 [.d (boxD l), .d (edgD e), .d (edgD g)] n m fun y _ m' => toD4 y = some (.tup [.list [], iD (reachE l g e)]) ∧ ∀ j, j < n → m' j = m j := by
  refine cwpK tabOk Try.func36 rfl rfl (show 3 ≤ _ by decide) rfl fun _ => ?_; simp only [Try.ntmps36]
  repeat (first | (with_reducible first | refine AWi.seqK fun _ => ?_ | refine AWi.blockK fun _ => ?_ | refine KI.go ?_) | ((first | refine AWi.region tabOk ?_ | refine AWi.condK fun _ _ => ?_); simp [-getElem?_pos, z0, z1, z2, z0]) | ((first | refine AWi.ret ?_ | refine AWi.skip ?_ | refine AWi.exit ?_); try simp only [thenP]) | (with_reducible refine BB.go ?_; simp only [blockP, thenP, reduceIte]))
  refine ExecI.callC (checkReach_w l e g _ _) rfl (by simp [calleeS, evList]) ?_
  rintro y n1 m1 ⟨hn1, hm1, hy⟩
  have hlow : ∀ j, j < n → m1 j = m j := fun j hj => (hm1 j (by omega)).trans (by (try dsimp only); repeat (first | rw [setMem_lt (by omega)] | rw [putN_lt (by omega)]))
  by_cases h0 : chkErr l [e, g] = 0
  · rw [if_pos h0] at hy
    have hneed : needN l g e = none := by
      cases hn : needN l g e with
      | none => rfl
      | some k => exact absurd (by rw [reachE, if_pos h0, hn]) h
    rw [hneed] at hy
    subst hy
    have hE : reachE l g e = 13 := by rw [reachE, if_pos h0, hneed]
    simp [-getElem?_pos, z0, z1, z2]
    repeat (first | (with_reducible first | refine AWi.seqK fun _ => ?_ | refine AWi.blockK fun _ => ?_ | refine KI.go ?_) | ((first | refine AWi.region tabOk ?_ | refine AWi.condK fun _ _ => ?_); simp [-getElem?_pos, z0, z1, z2, z0]) | ((first | refine AWi.ret ?_ | refine AWi.skip ?_ | refine AWi.exit ?_); try simp only [thenP]) | (with_reducible refine BB.go ?_; simp only [blockP, thenP, reduceIte]))
    exact RI.ret rfl ⟨by rw [hE]; rfl, hlow⟩
  · rw [if_neg h0] at hy
    subst hy
    have hE : reachE l g e = chkErr l [e, g] := if_neg h0
    simp [-getElem?_pos, z0, z1, z2]
    repeat (first | (with_reducible first | refine AWi.seqK fun _ => ?_ | refine AWi.blockK fun _ => ?_ | refine KI.go ?_) | ((first | refine AWi.region tabOk ?_ | refine AWi.condK fun _ _ => ?_); simp [-getElem?_pos, z0, z1, z2, h0]) | ((first | refine AWi.ret ?_ | refine AWi.skip ?_ | refine AWi.exit ?_); try simp only [thenP]) | (with_reducible refine BB.go ?_; simp only [blockP, thenP, reduceIte]))
    exact RI.ret rfl ⟨by rw [hE]; rfl, hlow⟩
theorem spare_c (l : List HS) (e g : HE) : ACall Try.prog 36 [boxD l, edgD e, edgD g] (.tup [intL (spareO l e g), iD (reachE l g e)]) := by
  by_cases h : reachE l g e = 0
  · obtain ⟨h0, k, hneed⟩ := reach_ok h
    have hO : spareO l e g = spareL l e g k l.length := by rw [spareO, if_pos h0, hneed]
    rw [hO, h]
    exact ACall.ofR (RCall.of4 (n0 := 0) fun n _ => (spare_ok l e g n _ h0 hneed).mono fun _ _ _ h => ⟨h.1, h.2⟩)
  · have hO : spareO l e g = [] := by
      unfold spareO
      split
      · rename_i h0
        cases hn : needN l g e with
        | none => rfl
        | some k => exact absurd (by rw [reachE, if_pos h0, hn]) h
      · rfl
    rw [hO]
    exact ACall.ofR (RCall.of4 (n0 := 0) fun n _ => (spare_no l e g n _ h).mono fun _ _ _ h => ⟨h.1, h.2⟩)
end Go.Proofs.Ytgiomfamlbmpcaa.Eng

noncomputable section
namespace Go.Proofs.Ytgiomfamlbmpcaa.Eng
open Go.RowKit
def rowF (L : List Int) (i : Nat) : Int := L.getD i 0
def cR (f : Nat → Int) : Nat → Int := rowF (tab f)
theorem cR_at (f : Nat → Int) {i : Nat} (h : i < 7) : cR f i = f i := by
  rw [cR, rowF, List.getD_eq_getElem?_getD, tab_get f h]
  rfl
theorem canS_burr {s : HS} {e : HE} (h : canS s e = true) : (strE s e).burr.toNat < 7 := by
  simp only [canS, decide_eq_true_eq] at h
  simp only [strE]
  omega
theorem strX_cR (s : HS) (e : HE) (f : Nat → Int) : strX s e (cR f) = strX s e f := by
  unfold strX
  cases hc : canS s e
  · rfl
  · rw [cR_at f (canS_burr hc)]
theorem strkTo_cR (l : List HS) (e : HE) (f : Nat → Int) : ∀ n, strkTo l e (cR f) n = strkTo l e f n
  | 0 => rfl
  | n + 1 => by
    rw [strkTo, strkTo, strkTo_cR l e f n]
    cases l[n]? with
    | none => rfl
    | some s => simp only [strX_cR]
theorem strks_cR (l : List HS) (e : HE) (f : Nat → Int) : strks l e (cR f) = strks l e f := strkTo_cR l e f _
theorem strks_burr {l : List HS} {e : HE} {f : Nat → Int} {x : Nat × HE} (h : x ∈ strks l e f) : x.2.burr.toNat < 7 := by
  obtain ⟨k, x⟩ := x
  obtain ⟨i, hi⟩ := List.getElem?_of_mem h
  obtain ⟨s, -, hX, rfl⟩ := strks_of hi
  simp only [strX, Bool.and_eq_true] at hX
  exact canS_burr hX.1
theorem depX_cR (l : List HS) (b : Nat) (f : Nat → Int) : depX l b (cR f) = depX l b f := by
  unfold depX
  rw [strks_cR]
  exact List.map_congr_left fun x hx => by unfold depN; rw [cR_at f (strks_burr hx)]
theorem leadR_cR (l : List HS) (f : Nat → Int) : leadR l (cR f) = leadR l f := funext fun b => by unfold leadR; rw [depX_cR]
def nxtL (l : List HS) (L : List Int) : List Int := tab (stepR l (rowF L))
theorem nxtL_tab (l : List HS) (f : Nat → Int) : nxtL l (tab f) = tab (stepR l f) := tab_ext fun i hi => by
  show max (cR f i) (leadR l (cR f) i) = max (f i) (leadR l f i)
  rw [cR_at f hi, leadR_cR]
def rowsL (l : List HS) : Nat → List Int → List (List Int)
  | 0, _ => []
  | k + 1, L => L :: if nxtL l L = L then [] else rowsL l k (nxtL l L)
theorem rowsL_tab (l : List HS) : ∀ k f, (rowsFrom l k f).map tab = rowsL l k (tab f)
  | 0, _ => rfl
  | k + 1, f => by
    rw [rowsFrom, rowsL, List.map_cons, nxtL_tab]
    by_cases h : tab (stepR l f) = tab f
    · rw [if_pos h, if_pos h]; rfl
    · rw [if_neg h, if_neg h, rowsL_tab l k]
def gL (l : List HS) (g : HE) : List (List Int) := rowsL l 800 (tab (firstR g))
theorem rowsG_tab (l : List HS) (g : HE) : (rowsG l g).map tab = gL l g := rowsL_tab l 800 _
theorem need_L {l : List HS} {g e : HE} (ge : GoodE e) : needN l g e = (gL l g).findIdx? fun L => decide (e.depth < rowF L e.burr.toNat) := by
  have hb : e.burr.toNat < 7 := by have := ge.b0; have := ge.b1; omega
  rw [← rowsG_tab, List.findIdx?_map, needN]
  refine congrArg (fun p => List.findIdx? p (rowsG l g)) (funext fun f => ?_)
  show decide (e.depth < f e.burr.toNat) = decide (e.depth < cR f e.burr.toNat)
  rw [cR_at f hb]
theorem onwX_cR (l : List HS) (rs : List (Nat → Int)) (e : HE) (k : Nat) : onwX l (rs.map cR) e k = onwX l rs e k := by
  cases k with
  | zero => rfl
  | succ k =>
    rw [onwX, onwX, List.getD_eq_getElem?_getD, List.getD_eq_getElem?_getD, List.getElem?_map]
    cases rs[k]? with
    | none => rfl
    | some f => exact strks_cR l e f
theorem bestG_cR (l : List HS) (rs : List (Nat → Int)) : ∀ k e, bestG l (rs.map cR) k e = bestG l rs k e
  | 0, _ => rfl
  | k + 1, e => by
    rw [bestG, bestG, onwX_cR]
    cases onwX l rs e (k + 1) with
    | nil => rfl
    | cons x _ => simp only [bestG_cR l rs k]
theorem procA_cR (l : List HS) (rs : List (Nat → Int)) (k : Nat) : ∀ A B, procA l (rs.map cR) k A B = procA l rs k A B
  | [], _ => rfl
  | a :: A, B => by rw [procA, procA, onwX_cR, procA_cR l rs k A]
theorem marksA_cR (l : List HS) (rs : List (Nat → Int)) (A : List HE) : marksA l (rs.map cR) A = marksA l rs A := by
  unfold marksA
  simp only [onwX_cR]
theorem endsG_cR (l : List HS) (rs : List (Nat → Int)) : ∀ k A, endsG l (rs.map cR) k A = endsG l rs k A
  | 0, _ => rfl
  | k + 1, A => by rw [endsG, endsG, marksA_cR, procA_cR, endsG_cR l rs k]
theorem take_cR (l : List HS) (g : HE) (k : Nat) : ((rowsG l g).take k).map cR = ((gL l g).take k).map rowF := by
  rw [← rowsG_tab, ← List.map_take, List.map_map]
  rfl
theorem best_L (l : List HS) (g e : HE) (k : Nat) : bestG l ((rowsG l g).take k) k e = bestG l (((gL l g).take k).map rowF) k e := by
  rw [← bestG_cR, take_cR]
theorem ends_L (l : List HS) (g : HE) (k : Nat) (A : List HE) : endsG l ((rowsG l g).take k) k A = endsG l (((gL l g).take k).map rowF) k A := by
  rw [← endsG_cR, take_cR]
theorem rowL_tab (f : Nat → Int) : rowL f = (tab f).map (· - 1) := by
  rw [rowL, tab, tab, List.map_map]
  rfl
theorem rows_L (l : List HS) (g : HE) (k : Nat) : ((rowsG l g).take k).map rowL = ((gL l g).take k).map fun L => L.map (· - 1) := by
  rw [← rowsG_tab, ← List.map_take, List.map_map]
  exact List.map_congr_left fun f _ => rowL_tab f
theorem far_L (l : List HS) (g : HE) (k : Nat) : (tab fun i => farR l g k i - 1) = ((gL l g).getD (min k ((gL l g).length - 1)) []).map (· - 1) := by
  have hp := rowsG_pos l g
  show rowL (farR l g k) = _
  rw [rowL_tab, farR, ← rowsG_tab, List.length_map, List.getD_eq_getElem?_getD, List.getD_eq_getElem?_getD, List.getElem?_map, List.getElem?_eq_getElem (show min k ((rowsG l g).length - 1) < (rowsG l g).length by omega)]
  rfl
def BX : List HS := [⟨20, 15, 2⟩, ⟨5, 4, 1⟩, ⟨0, 1, -3⟩]
def BX2 : List HS := [⟨20, 15, 2⟩, ⟨5, 4, 1⟩]
def RW : List (List Int) := [[5, 0, 0, 0, 0, 0, 0], [6, 6, 6, 6, 0, 0, 0], [10, 10, 10, 7, 7, 7, 7], [14, 14, 11, 11, 11, 11, 8], [18, 15, 15, 15, 15, 12, 12], [19, 19, 19, 19, 16, 16, 16], [23, 23, 23, 20, 20, 20, 20], [38, 27, 24, 24, 24, 24, 21], [39, 39, 39, 39, 36, 25, 25], [54, 54, 51, 40, 40, 40, 40], [66, 55, 55, 55, 55, 52, 41], [70, 70, 70, 67, 56, 56, 56], [85, 82, 71, 71, 71, 71, 68], [86, 86, 86, 86, 83, 72, 72], [101, 101, 98, 87, 87, 87, 87], [101, 101, 101, 101, 101, 99, 88], [101, 101, 101, 101, 101, 101, 101]]
def RW2 : List (List Int) := [[5, 0, 0, 0, 0, 0, 0]]
def RW0 : List (List Int) := [[5, 0, 0, 0, 0, 0, 0], [6, 6, 6, 6, 0, 0, 0], [10, 10, 10, 7, 7, 7, 7], [14, 14, 11, 11, 11, 11, 8], [18, 15, 15, 15, 15, 12, 12], [19, 19, 19, 19, 16, 16, 16], [23, 23, 23, 20, 20, 20, 20], [27, 27, 24, 24, 24, 24, 21], [31, 28, 28, 28, 28, 25, 25], [32, 32, 32, 32, 29, 29, 29], [36, 36, 36, 33, 33, 33, 33], [40, 40, 37, 37, 37, 37, 34], [44, 41, 41, 41, 41, 38, 38], [45, 45, 45, 45, 42, 42, 42], [49, 49, 49, 46, 46, 46, 46], [53, 53, 50, 50, 50, 50, 47], [57, 54, 54, 54, 54, 51, 51], [58, 58, 58, 58, 55, 55, 55], [62, 62, 62, 59, 59, 59, 59], [66, 66, 63, 63, 63, 63, 60], [70, 67, 67, 67, 67, 64, 64], [71, 71, 71, 71, 68, 68, 68], [75, 75, 75, 72, 72, 72, 72], [79, 79, 76, 76, 76, 76, 73], [83, 80, 80, 80, 80, 77, 77], [84, 84, 84, 84, 81, 81, 81], [88, 88, 88, 85, 85, 85, 85], [92, 92, 89, 89, 89, 89, 86], [96, 93, 93, 93, 93, 90, 90], [97, 97, 97, 97, 94, 94, 94], [101, 101, 101, 98, 98, 98, 98], [101, 101, 101, 101, 101, 101, 99], [101, 101, 101, 101, 101, 101, 101]]
def RW1 : List (List Int) := [[5, 0, 0, 0, 0, 0, 0], [6, 6, 6, 6, 0, 0, 0], [7, 7, 7, 7, 7, 7, 7], [8, 8, 8, 8, 8, 8, 8], [9, 9, 9, 9, 9, 9, 9], [10, 10, 10, 10, 10, 10, 10], [11, 11, 11, 11, 11, 11, 11], [12, 12, 12, 12, 12, 12, 12], [13, 13, 13, 13, 13, 13, 13], [14, 14, 14, 14, 14, 14, 14], [15, 15, 15, 15, 15, 15, 15], [16, 16, 16, 16, 16, 16, 16], [17, 17, 17, 17, 17, 17, 17], [18, 18, 18, 18, 18, 18, 18], [19, 19, 19, 19, 19, 19, 19], [20, 20, 20, 20, 20, 20, 20], [21, 21, 21, 21, 21, 21, 21], [36, 36, 36, 36, 36, 22, 22], [51, 51, 51, 37, 37, 37, 37], [66, 52, 52, 52, 52, 52, 38], [67, 67, 67, 67, 53, 53, 53], [82, 82, 68, 68, 68, 68, 68], [83, 83, 83, 83, 83, 69, 69], [98, 98, 98, 84, 84, 84, 84], [101, 99, 99, 99, 99, 99, 85], [101, 101, 101, 101, 100, 100, 100], [101, 101, 101, 101, 101, 101, 101]]
set_option maxRecDepth 100000
theorem gL_BX : gL BX ⟨4, 0⟩ = RW := by kernel_rfl
theorem gL_BX2 : gL BX2 ⟨4, 0⟩ = RW2 := by kernel_rfl
theorem gL_BX0 : gL (woS BX 0) ⟨4, 0⟩ = RW0 := by kernel_rfl
theorem gL_BX1 : gL (woS BX 1) ⟨4, 0⟩ = RW1 := by kernel_rfl
end Go.Proofs.Ytgiomfamlbmpcaa.Eng

noncomputable section
namespace Go.Proofs.Ytgiomfamlbmpcaa.Eng
open Go.RowKit
set_option maxRecDepth 100000
set_option maxHeartbeats 4000000
theorem stone_c (a b c : Int) : ACall Try.prog 73 [iD a, iD b, iD c] (stnD ⟨a, b, c⟩) := by
  refine acallK tabOk Try.func73 rfl rfl (show 3 ≤ _ by decide) rfl fun _ => ?_; simp only [Try.ntmps73]
  repeat (first | (with_reducible first | refine zq1 fun _ => ?_ | refine zq2 fun _ => ?_ | refine zq3 ?_) | ((first | refine zq4 ?_ | refine zq5 fun _ _ => ?_ | refine zq6 ?_); simp [-getElem?_pos, z0, z1, z2, z0]) | ((first | refine AWp.ret ?_ | refine AWp.skip ?_ | refine AWp.exit ?_); try simp only [thenP]) | (with_reducible refine zq7 ?_; simp only [blockP, thenP, reduceIte]) | with_reducible refine zq8 ?_)
  (first | refine RR.ret ?_ | refine RR.normal ?_); simp [z0]
theorem edge_c (a b : Int) : ACall Try.prog 43 [iD a, iD b] (edgD ⟨a, b⟩) := by
  refine acallK tabOk Try.func43 rfl rfl (show 2 ≤ _ by decide) rfl fun _ => ?_; simp only [Try.ntmps43]
  repeat (first | (with_reducible first | refine zq1 fun _ => ?_ | refine zq2 fun _ => ?_ | refine zq3 ?_) | ((first | refine zq4 ?_ | refine zq5 fun _ _ => ?_ | refine zq6 ?_); simp [-getElem?_pos, z0, z1, z2, z0]) | ((first | refine AWp.ret ?_ | refine AWp.skip ?_ | refine AWp.exit ?_); try simp only [thenP]) | (with_reducible refine zq7 ?_; simp only [blockP, thenP, reduceIte]) | with_reducible refine zq8 ?_)
  (first | refine RR.ret ?_ | refine RR.normal ?_); simp [z0]
theorem box_c : ACall Try.prog 48 [] (boxD BX) := by
  have c1 := stone_c 20 15 2
  have c2 := stone_c 5 4 1
  have c3 := stone_c 0 1 (-3)
  refine acallK tabOk Try.func48 rfl rfl (show 0 ≤ _ by decide) rfl fun _ => ?_; simp only [Try.ntmps48]
  repeat (first | (with_reducible first | refine zq1 fun _ => ?_ | refine zq2 fun _ => ?_ | refine zq3 ?_) | ((first | refine zq4 ?_ | refine zq5 fun _ _ => ?_ | refine zq6 ?_); simp [-getElem?_pos, z0, z1, z2, z0]) | ((first | refine AWp.ret ?_ | refine AWp.skip ?_ | refine AWp.exit ?_); try simp only [thenP]) | (with_reducible refine zq7 ?_; simp only [blockP, thenP, reduceIte]) | with_reducible refine zq8 ?_)
  (first | refine Exec0.call [] c1 ?_ rfl ?_ ?_ | refine Exec.call [] c1 ?_ rfl ?_ ?_); (focus simp [-getElem?_pos, z0]); (focus simp [-getElem?_pos, z0, z1, z2, z0]); simp [-getElem?_pos, z0, z1, z2, z0]
  (first | refine Exec0.call [] c2 ?_ rfl ?_ ?_ | refine Exec.call [] c2 ?_ rfl ?_ ?_); (focus simp [-getElem?_pos, z0]); (focus simp [-getElem?_pos, z0, z1, z2, z0]); simp [-getElem?_pos, z0, z1, z2, z0]
  (first | refine Exec0.call [] c3 ?_ rfl ?_ ?_ | refine Exec.call [] c3 ?_ rfl ?_ ?_); (focus simp [-getElem?_pos, z0]); (focus simp [-getElem?_pos, z0, z1, z2, z0]); simp [-getElem?_pos, z0, z1, z2, z0]
  repeat (first | (with_reducible first | refine zq1 fun _ => ?_ | refine zq2 fun _ => ?_ | refine zq3 ?_) | ((first | refine zq4 ?_ | refine zq5 fun _ _ => ?_ | refine zq6 ?_); simp [-getElem?_pos, z0, z1, z2, z0]) | ((first | refine AWp.ret ?_ | refine AWp.skip ?_ | refine AWp.exit ?_); try simp only [thenP]) | (with_reducible refine zq7 ?_; simp only [blockP, thenP, reduceIte]) | with_reducible refine zq8 ?_)
  (first | refine RR.ret ?_ | refine RR.normal ?_); simp [z0]
  rfl
theorem ints_c (a b : List Int) (ha : a.length ≤ 1000000) (hb : b.length ≤ 1000000) : ACall Try.prog 23 [intL a, intL b] (bD (decide (a = b))) := by
  obtain ⟨r, hr⟩ : ∃ r, r = decide (a = b) := ⟨_, rfl⟩
  rw [← hr]
  by_cases hl : a.length = b.length
  · have hli : (a.length : Int) = b.length := by omega
    refine acallK tabOk Try.func23 rfl rfl (show 2 ≤ _ by decide) rfl fun _ => ?_; simp only [Try.ntmps23]
    repeat (first | (with_reducible first | refine zq1 fun _ => ?_ | refine zq2 fun _ => ?_ | refine zq3 ?_) | ((first | refine zq4 ?_ | refine zq5 fun _ _ => ?_ | refine zq6 ?_); simp [-getElem?_pos, z0, z1, z2, hl, hli]) | ((first | refine AWp.ret ?_ | refine AWp.skip ?_ | refine AWp.exit ?_); try simp only [thenP]) | (with_reducible refine zq7 ?_; simp only [blockP, thenP, reduceIte]) | with_reducible refine zq8 ?_)
    refine AWp.loopK (ι := { k : Nat // k ≤ b.length ∧ a.take k = b.take k }) (n := 0) (fun k => [(0, .d (intL a)), (1, .d (intL b)), (5, .d (iD k.1))]) (fun _ => []) (fun k => b.length - k.1) ⟨0, Nat.zero_le _, rfl⟩ [] ?_ ?_
    · refine ⟨by rfl, by simp [], by simp [or_imp, forall_and, ] <;> (try (intro _hne; simp [_hne])), by decide⟩
    rintro ⟨k, hk, hall⟩ kk
    have w1 : IntKind.i64.wrap ((k : Int) + 1) = (k : Int) + 1 := wrap64_in (by omega)
    by_cases hlt : k < b.length
    · obtain ⟨x, hx⟩ : ∃ x, a[k]? = some x := ⟨_, List.getElem?_eq_getElem (by omega)⟩
      obtain ⟨y, hy⟩ : ∃ y, b[k]? = some y := ⟨_, List.getElem?_eq_getElem hlt⟩
      by_cases g : x = y
      · subst g
        have hall2 : a.take (k + 1) = b.take (k + 1) := by rw [List.take_add_one, List.take_add_one, hall, hx, hy]
        repeat (first | (with_reducible first | refine zq1 fun _ => ?_ | refine zq2 fun _ => ?_ | refine zq3 ?_) | ((first | refine zq4 ?_ | refine zq5 fun _ _ => ?_ | refine zq6 ?_); simp [-getElem?_pos, z0, z1, z2, hlt, hx, hy, hl, hli, w1]) | ((first | refine AWp.ret ?_ | refine AWp.skip ?_ | refine AWp.exit ?_); try simp only [thenP]) | (with_reducible refine zq7 ?_; simp only [blockP, thenP, reduceIte]) | with_reducible refine zq8 ?_)
        refine LL.go ⟨k + 1, hlt, hall2⟩ [] ⟨by rfl, by simp [], by simp [or_imp, forall_and, ] <;> (try (intro _hne; simp [_hne])), by decide⟩ ?_
        simp; omega
      · have hr' : r = false := by rw [hr]; exact decide_eq_false fun h => by subst h; rw [hx] at hy; exact g (Option.some.inj hy)
        repeat (first | (with_reducible first | refine zq1 fun _ => ?_ | refine zq2 fun _ => ?_ | refine zq3 ?_) | ((first | refine zq4 ?_ | refine zq5 fun _ _ => ?_ | refine zq6 ?_); simp [-getElem?_pos, z0, z1, z2, hlt, hx, hy, g, hl, hli]) | ((first | refine AWp.ret ?_ | refine AWp.skip ?_ | refine AWp.exit ?_); try simp only [thenP]) | (with_reducible refine zq7 ?_; simp only [blockP, thenP, reduceIte]) | with_reducible refine zq8 ?_)
        (first | refine RR.ret ?_ | refine RR.normal ?_); simp [hr']
    · obtain rfl : k = b.length := by omega
      have hr' : r = true := hr.trans (decide_eq_true (by rwa [List.take_of_length_le (Nat.le_refl _), List.take_of_length_le (by omega)] at hall))
      repeat (first | (with_reducible first | refine zq1 fun _ => ?_ | refine zq2 fun _ => ?_ | refine zq3 ?_) | ((first | refine zq4 ?_ | refine zq5 fun _ _ => ?_ | refine zq6 ?_); simp [-getElem?_pos, z0, z1, z2, hlt, hl, hli]) | ((first | refine AWp.ret ?_ | refine AWp.skip ?_ | refine AWp.exit ?_); try simp only [thenP]) | (with_reducible refine zq7 ?_; simp only [blockP, thenP, reduceIte]) | with_reducible refine zq8 ?_)
      (first | refine RR.ret ?_ | refine RR.normal ?_); simp [hr']
  · have hr' : r = false := hr.trans (decide_eq_false fun h => hl (congrArg _ h))
    have hli : ¬ (a.length : Int) = b.length := by omega
    refine acallK tabOk Try.func23 rfl rfl (show 2 ≤ _ by decide) rfl fun _ => ?_; simp only [Try.ntmps23]
    repeat (first | (with_reducible first | refine zq1 fun _ => ?_ | refine zq2 fun _ => ?_ | refine zq3 ?_) | ((first | refine zq4 ?_ | refine zq5 fun _ _ => ?_ | refine zq6 ?_); simp [-getElem?_pos, z0, z1, z2, hl, hli]) | ((first | refine AWp.ret ?_ | refine AWp.skip ?_ | refine AWp.exit ?_); try simp only [thenP]) | (with_reducible refine zq7 ?_; simp only [blockP, thenP, reduceIte]) | with_reducible refine zq8 ?_)
    (first | refine RR.ret ?_ | refine RR.normal ?_); simp [hr']
end Go.Proofs.Ytgiomfamlbmpcaa.Eng

noncomputable section
namespace Go.Proofs.Ytgiomfamlbmpcaa.Eng
open Go.RowKit
set_option maxRecDepth 100000
set_option maxHeartbeats 4000000
def FT : List Int := [4, -1, -1, -1, -1, -1, -1]
def ST : List Int := [0, 0, 1, 1, 2, 1, 1, 2, 2]
theorem chk_g : chkErr BX [⟨4, 0⟩] = 0 := by kernel_rfl
theorem chk_eg : chkErr BX [⟨40, 0⟩, ⟨4, 0⟩] = 0 := by kernel_rfl
theorem chk_eg2 : chkErr BX2 [⟨40, 0⟩, ⟨4, 0⟩] = 0 := by kernel_rfl
theorem chk_g2 : chkErr BX2 [⟨4, 0⟩] = 0 := by kernel_rfl
theorem gE : GoodE ⟨40, 0⟩ := ⟨by decide, by decide, by decide, by decide⟩
theorem nd : needN BX ⟨4, 0⟩ ⟨40, 0⟩ = some 9 := by rw [need_L gE, gL_BX]; kernel_rfl
theorem nd2 : needN BX2 ⟨4, 0⟩ ⟨40, 0⟩ = none := by rw [need_L gE, gL_BX2]; kernel_rfl
theorem nd_0 : needN (woS BX 0) ⟨4, 0⟩ ⟨40, 0⟩ = some 12 := by rw [need_L gE, gL_BX0]; kernel_rfl
theorem nd_1 : needN (woS BX 1) ⟨4, 0⟩ ⟨40, 0⟩ = some 18 := by rw [need_L gE, gL_BX1]; kernel_rfl
theorem nd_2 : needN (woS BX 2) ⟨4, 0⟩ ⟨40, 0⟩ = none := nd2
theorem vReach : reachE BX ⟨4, 0⟩ ⟨40, 0⟩ = 0 := by rw [reachE, if_pos chk_eg, nd]
theorem vReach2 : reachE BX2 ⟨4, 0⟩ ⟨40, 0⟩ = 13 := by rw [reachE, if_pos chk_eg2, nd2]
theorem vAft1 : aftR BX ⟨40, 0⟩ [0, 0, 1] = ⟨16, 5⟩ := by kernel_rfl
theorem vAft1E : aftE BX ⟨40, 0⟩ [0, 0, 1] = 0 := by kernel_rfl
theorem vAft2E : aftE BX ⟨40, 0⟩ [0, 0, 0, 0] = 16 := by kernel_rfl
theorem vAft2 : aftR BX ⟨40, 0⟩ [0, 0, 0, 0] = ⟨0, 0⟩ := by kernel_rfl
theorem vBest : bestO BX ⟨40, 0⟩ ⟨4, 0⟩ = ST := by rw [bestO, if_pos chk_eg, nd]; simp only []; rw [best_L, gL_BX]; kernel_rfl
theorem vBest2 : bestO BX2 ⟨40, 0⟩ ⟨4, 0⟩ = [] := by rw [bestO, if_pos chk_eg2, nd2]
theorem vFarE : farE BX ⟨4, 0⟩ 2 = 0 := by rw [farE, if_pos chk_g]; rfl
theorem vFarE2 : farE BX2 ⟨4, 0⟩ 800 = 0 := by rw [farE, if_pos chk_g2]; rfl
theorem vFar : farO BX ⟨4, 0⟩ 2 = [9, 9, 9, 6, 6, 6, 6] := by rw [farO, if_pos vFarE, far_L, gL_BX]; kernel_rfl
theorem vLast : farO BX2 ⟨4, 0⟩ 800 = FT := by rw [farO, if_pos vFarE2, far_L, gL_BX2]; kernel_rfl
theorem vChk1 : chkRows BX ⟨40, 0⟩ ⟨4, 0⟩ [FT, [5, 5, 5, 5, -1, -1, -1]] = 0 := by kernel_rfl
theorem vChk2 : chkRows BX ⟨40, 0⟩ ⟨4, 0⟩ [FT, FT] = 14 := by kernel_rfl
def RQ : List (List Int) := (RW.take 9).map fun L => L.map (· - 1)
theorem vRows : rowsO BX ⟨40, 0⟩ ⟨4, 0⟩ = RQ := by rw [rowsO, if_pos chk_eg, nd]; simp only []; rw [rows_L, gL_BX]; rfl
theorem vRef : refChk BX ⟨40, 0⟩ ⟨4, 0⟩ RQ = 0 := by kernel_rfl
theorem vSpare : spareO BX ⟨40, 0⟩ ⟨4, 0⟩ = [] := by
  rw [spareO, if_pos chk_eg, nd]
  show (([0, 1, 2].filter fun j => decide (needN (woS BX j) ⟨4, 0⟩ ⟨40, 0⟩ = some 9)).map fun j : Nat => (j : Int)) = []
  simp [nd_0, nd_1, nd_2]
theorem vEnds : endsO BX ⟨40, 0⟩ ⟨4, 0⟩ = [2] := by rw [endsO, if_pos chk_eg, nd]; simp only []; rw [ends_L, gL_BX]; kernel_rfl
theorem vNever : chkNever BX2 ⟨40, 0⟩ ⟨4, 0⟩ FT = 0 := by kernel_rfl
end Go.Proofs.Ytgiomfamlbmpcaa.Eng

noncomputable section
namespace Go.Proofs.Ytgiomfamlbmpcaa.Eng
open Go.RowKit
set_option maxRecDepth 100000
set_option maxHeartbeats 16000000
theorem bxL : boxD BX = .list [[iD 20, iD 15, iD 2], [iD 5, iD 4, iD 1], [iD 0, iD 1, iD (-3)]] := rfl
theorem bxL2 : boxD BX2 = .list [[iD 20, iD 15, iD 2], [iD 5, iD 4, iD 1]] := rfl
theorem ftL : intL FT = .list [[iD 4], [iD (-1)], [iD (-1)], [iD (-1)], [iD (-1)], [iD (-1)], [iD (-1)]] := rfl
theorem bestLit : intL ST = .list [[iD 0], [iD 0], [iD 1], [iD 1], [iD 2], [iD 1], [iD 1], [iD 2], [iD 2]] := rfl
theorem works_call : ACall Try.prog 16 [] (.val (.bool true)) := by
  have ce := edge_c 40 0
  have cg := edge_c 4 0
  have ca := edge_c 16 5
  have c1 := after_c BX ⟨40, 0⟩ [0, 0, 1] (by decide)
  have c2 := after_c BX ⟨40, 0⟩ [0, 0, 0, 0] (by decide)
  rw [vAft1, vAft1E] at c1
  rw [vAft2, vAft2E] at c2
  have c3 := best_c BX ⟨40, 0⟩ ⟨4, 0⟩
  rw [vBest, vReach] at c3
  have c4 := far_c BX ⟨4, 0⟩ 2
  rw [vFar, vFarE] at c4
  have c5 := checkRows_c BX ⟨40, 0⟩ ⟨4, 0⟩ [FT, [5, 5, 5, 5, -1, -1, -1]] (by decide)
  have c6 := checkRows_c BX ⟨40, 0⟩ ⟨4, 0⟩ [FT, FT] (by decide)
  rw [vChk1] at c5
  rw [vChk2] at c6
  have c7 := rows_c BX ⟨40, 0⟩ ⟨4, 0⟩
  rw [vRows, vReach] at c7
  have c8 := spare_c BX ⟨40, 0⟩ ⟨4, 0⟩
  rw [vSpare, vReach] at c8
  have c9 := ends_c BX ⟨40, 0⟩ ⟨4, 0⟩
  rw [vEnds, vReach] at c9
  have c10 := last_c BX2 ⟨4, 0⟩
  rw [vLast, vFarE2] at c10
  have c11 := checkNever_c BX2 ⟨40, 0⟩ ⟨4, 0⟩ FT (by decide)
  rw [vNever] at c11
  have c12 := best_c BX2 ⟨40, 0⟩ ⟨4, 0⟩
  rw [vBest2, vReach2] at c12
  have r1 := refCheckRows_c BX ⟨40, 0⟩ ⟨4, 0⟩ RQ (by decide)
  rw [vRef] at r1
  have i1 := ints_c ST ST (by decide) (by decide)
  have i2 := ints_c [9, 9, 9, 6, 6, 6, 6] [9, 9, 9, 6, 6, 6, 6] (by decide) (by decide)
  have i3 := ints_c [2] [2] (by decide) (by decide)
  have i4 := ints_c FT FT (by decide) (by decide)
  have cb := box_c
  rw [bxL] at cb c1 c2 c3 c4 c5 c6 c7 c8 c9 r1
  rw [bxL2] at c10 c11 c12
  rw [bestLit] at c3 i1
  rw [ftL] at c10 c11 i4
  rw [show intL [0, 0, 1] = .list [[iD 0], [iD 0], [iD 1]] from rfl] at c1
  rw [show intL [0, 0, 0, 0] = .list [[iD 0], [iD 0], [iD 0], [iD 0]] from rfl] at c2
  rw [show (Dat.list (listsD [FT, [5, 5, 5, 5, -1, -1, -1]])) = .list [[.list [[iD 4], [iD (-1)], [iD (-1)], [iD (-1)], [iD (-1)], [iD (-1)], [iD (-1)]]], [.list [[iD 5], [iD 5], [iD 5], [iD 5], [iD (-1)], [iD (-1)], [iD (-1)]]]] from rfl] at c5
  rw [show (Dat.list (listsD [FT, FT])) = .list [[.list [[iD 4], [iD (-1)], [iD (-1)], [iD (-1)], [iD (-1)], [iD (-1)], [iD (-1)]]], [.list [[iD 4], [iD (-1)], [iD (-1)], [iD (-1)], [iD (-1)], [iD (-1)], [iD (-1)]]]] from rfl] at c6
  rw [show intL [] = .list [] from rfl] at c8
  rw [show intL [2] = .list [[iD 2]] from rfl] at c9 i3
  rw [show intL [9, 9, 9, 6, 6, 6, 6] = .list [[iD 9], [iD 9], [iD 9], [iD 6], [iD 6], [iD 6], [iD 6]] from rfl] at c4 i2
  rw [show intL [] = .list [] from rfl] at c12
  have hlen : (listsD RQ).length = 9 := rfl
  refine acallK tabOk Try.func16 rfl rfl (show 0 ≤ _ by decide) rfl fun _ => ?_; simp only [Try.ntmps16]
  repeat (first | (with_reducible first | refine zq1 fun _ => ?_ | refine zq2 fun _ => ?_ | refine zq3 ?_) | ((first | refine zq4 ?_ | refine zq5 fun _ _ => ?_ | refine zq6 ?_); simp [-getElem?_pos, z0, z1, z2, z0]) | ((first | refine AWp.ret ?_ | refine AWp.skip ?_ | refine AWp.exit ?_); try simp only [thenP]) | (with_reducible refine zq7 ?_; simp only [blockP, thenP, reduceIte]) | with_reducible refine zq8 ?_)
  (first | refine Exec0.call [] cb ?_ rfl ?_ ?_ | refine Exec.call [] cb ?_ rfl ?_ ?_); (focus simp [-getElem?_pos, z0]); (focus simp [-getElem?_pos, z0, z1, z2, z0]); simp [-getElem?_pos, z0, z1, z2, z0]
  (first | refine Exec0.call [] ce ?_ rfl ?_ ?_ | refine Exec.call [] ce ?_ rfl ?_ ?_); (focus simp [-getElem?_pos, z0]); (focus simp [-getElem?_pos, z0, z1, z2, z0]); simp [-getElem?_pos, z0, z1, z2, z0]
  (first | refine Exec0.call [] cg ?_ rfl ?_ ?_ | refine Exec.call [] cg ?_ rfl ?_ ?_); (focus simp [-getElem?_pos, z0]); (focus simp [-getElem?_pos, z0, z1, z2, z0]); simp [-getElem?_pos, z0, z1, z2, z0]
  repeat (first | (with_reducible first | refine zq1 fun _ => ?_ | refine zq2 fun _ => ?_ | refine zq3 ?_) | ((first | refine zq4 ?_ | refine zq5 fun _ _ => ?_ | refine zq6 ?_); simp [-getElem?_pos, z0, z1, z2, z0]) | ((first | refine AWp.ret ?_ | refine AWp.skip ?_ | refine AWp.exit ?_); try simp only [thenP]) | (with_reducible refine zq7 ?_; simp only [blockP, thenP, reduceIte]) | with_reducible refine zq8 ?_)
  (first | refine Exec0.call [11] c1 ?_ rfl ?_ ?_ | refine Exec.call [11] c1 ?_ rfl ?_ ?_); (focus simp [-getElem?_pos, z0]); (focus simp [-getElem?_pos, z0, z1, z2, z0]); simp [-getElem?_pos, z0, z1, z2, z0]
  repeat (first | (with_reducible first | refine zq1 fun _ => ?_ | refine zq2 fun _ => ?_ | refine zq3 ?_) | ((first | refine zq4 ?_ | refine zq5 fun _ _ => ?_ | refine zq6 ?_); simp [-getElem?_pos, z0, z1, z2, z0]) | ((first | refine AWp.ret ?_ | refine AWp.skip ?_ | refine AWp.exit ?_); try simp only [thenP]) | (with_reducible refine zq7 ?_; simp only [blockP, thenP, reduceIte]) | with_reducible refine zq8 ?_)
  (first | refine Exec0.call [21] c2 ?_ rfl ?_ ?_ | refine Exec.call [21] c2 ?_ rfl ?_ ?_); (focus simp [-getElem?_pos, z0]); (focus simp [-getElem?_pos, z0, z1, z2, z0]); simp [-getElem?_pos, z0, z1, z2, z0]
  repeat (first | (with_reducible first | refine zq1 fun _ => ?_ | refine zq2 fun _ => ?_ | refine zq3 ?_) | ((first | refine zq4 ?_ | refine zq5 fun _ _ => ?_ | refine zq6 ?_); simp [-getElem?_pos, z0, z1, z2, z0]) | ((first | refine AWp.ret ?_ | refine AWp.skip ?_ | refine AWp.exit ?_); try simp only [thenP]) | (with_reducible refine zq7 ?_; simp only [blockP, thenP, reduceIte]) | with_reducible refine zq8 ?_)
  (first | refine Exec0.call [] c3 ?_ rfl ?_ ?_ | refine Exec.call [] c3 ?_ rfl ?_ ?_); (focus simp [-getElem?_pos, z0]); (focus simp [-getElem?_pos, z0, z1, z2, z0]); simp [-getElem?_pos, z0, z1, z2, z0]
  repeat (first | (with_reducible first | refine zq1 fun _ => ?_ | refine zq2 fun _ => ?_ | refine zq3 ?_) | ((first | refine zq4 ?_ | refine zq5 fun _ _ => ?_ | refine zq6 ?_); simp [-getElem?_pos, z0, z1, z2, z0]) | ((first | refine AWp.ret ?_ | refine AWp.skip ?_ | refine AWp.exit ?_); try simp only [thenP]) | (with_reducible refine zq7 ?_; simp only [blockP, thenP, reduceIte]) | with_reducible refine zq8 ?_)
  (first | refine Exec0.call [] c4 ?_ rfl ?_ ?_ | refine Exec.call [] c4 ?_ rfl ?_ ?_); (focus simp [-getElem?_pos, z0]); (focus simp [-getElem?_pos, z0, z1, z2, z0]); simp [-getElem?_pos, z0, z1, z2, z0]
  repeat (first | (with_reducible first | refine zq1 fun _ => ?_ | refine zq2 fun _ => ?_ | refine zq3 ?_) | ((first | refine zq4 ?_ | refine zq5 fun _ _ => ?_ | refine zq6 ?_); simp [-getElem?_pos, z0, z1, z2, z0]) | ((first | refine AWp.ret ?_ | refine AWp.skip ?_ | refine AWp.exit ?_); try simp only [thenP]) | (with_reducible refine zq7 ?_; simp only [blockP, thenP, reduceIte]) | with_reducible refine zq8 ?_)
  (first | refine Exec0.call [53] c5 ?_ rfl ?_ ?_ | refine Exec.call [53] c5 ?_ rfl ?_ ?_); (focus simp [-getElem?_pos, z0]); (focus simp [-getElem?_pos, z0, z1, z2, z0]); simp [-getElem?_pos, z0, z1, z2, z0]
  repeat (first | (with_reducible first | refine zq1 fun _ => ?_ | refine zq2 fun _ => ?_ | refine zq3 ?_) | ((first | refine zq4 ?_ | refine zq5 fun _ _ => ?_ | refine zq6 ?_); simp [-getElem?_pos, z0, z1, z2, z0]) | ((first | refine AWp.ret ?_ | refine AWp.skip ?_ | refine AWp.exit ?_); try simp only [thenP]) | (with_reducible refine zq7 ?_; simp only [blockP, thenP, reduceIte]) | with_reducible refine zq8 ?_)
  (first | refine Exec0.call [61] c6 ?_ rfl ?_ ?_ | refine Exec.call [61] c6 ?_ rfl ?_ ?_); (focus simp [-getElem?_pos, z0]); (focus simp [-getElem?_pos, z0, z1, z2, z0]); simp [-getElem?_pos, z0, z1, z2, z0]
  repeat (first | (with_reducible first | refine zq1 fun _ => ?_ | refine zq2 fun _ => ?_ | refine zq3 ?_) | ((first | refine zq4 ?_ | refine zq5 fun _ _ => ?_ | refine zq6 ?_); simp [-getElem?_pos, z0, z1, z2, z0]) | ((first | refine AWp.ret ?_ | refine AWp.skip ?_ | refine AWp.exit ?_); try simp only [thenP]) | (with_reducible refine zq7 ?_; simp only [blockP, thenP, reduceIte]) | with_reducible refine zq8 ?_)
  (first | refine Exec0.call [] c7 ?_ rfl ?_ ?_ | refine Exec.call [] c7 ?_ rfl ?_ ?_); (focus simp [-getElem?_pos, z0]); (focus simp [-getElem?_pos, z0, z1, z2, z0]); simp [-getElem?_pos, z0, z1, z2, z0]
  repeat (first | (with_reducible first | refine zq1 fun _ => ?_ | refine zq2 fun _ => ?_ | refine zq3 ?_) | ((first | refine zq4 ?_ | refine zq5 fun _ _ => ?_ | refine zq6 ?_); simp [-getElem?_pos, z0, z1, z2, z0]) | ((first | refine AWp.ret ?_ | refine AWp.skip ?_ | refine AWp.exit ?_); try simp only [thenP]) | (with_reducible refine zq7 ?_; simp only [blockP, thenP, reduceIte]) | with_reducible refine zq8 ?_)
  (first | refine Exec0.call [] c8 ?_ rfl ?_ ?_ | refine Exec.call [] c8 ?_ rfl ?_ ?_); (focus simp [-getElem?_pos, z0]); (focus simp [-getElem?_pos, z0, z1, z2, z0]); simp [-getElem?_pos, z0, z1, z2, z0]
  repeat (first | (with_reducible first | refine zq1 fun _ => ?_ | refine zq2 fun _ => ?_ | refine zq3 ?_) | ((first | refine zq4 ?_ | refine zq5 fun _ _ => ?_ | refine zq6 ?_); simp [-getElem?_pos, z0, z1, z2, z0]) | ((first | refine AWp.ret ?_ | refine AWp.skip ?_ | refine AWp.exit ?_); try simp only [thenP]) | (with_reducible refine zq7 ?_; simp only [blockP, thenP, reduceIte]) | with_reducible refine zq8 ?_)
  (first | refine Exec0.call [] c9 ?_ rfl ?_ ?_ | refine Exec.call [] c9 ?_ rfl ?_ ?_); (focus simp [-getElem?_pos, z0]); (focus simp [-getElem?_pos, z0, z1, z2, z0]); simp [-getElem?_pos, z0, z1, z2, z0]
  repeat (first | (with_reducible first | refine zq1 fun _ => ?_ | refine zq2 fun _ => ?_ | refine zq3 ?_) | ((first | refine zq4 ?_ | refine zq5 fun _ _ => ?_ | refine zq6 ?_); simp [-getElem?_pos, z0, z1, z2, z0]) | ((first | refine AWp.ret ?_ | refine AWp.skip ?_ | refine AWp.exit ?_); try simp only [thenP]) | (with_reducible refine zq7 ?_; simp only [blockP, thenP, reduceIte]) | with_reducible refine zq8 ?_)
  (first | refine Exec0.call [] c10 ?_ rfl ?_ ?_ | refine Exec.call [] c10 ?_ rfl ?_ ?_); (focus simp [-getElem?_pos, z0]); (focus simp [-getElem?_pos, z0, z1, z2, z0]); simp [-getElem?_pos, z0, z1, z2, z0]
  repeat (first | (with_reducible first | refine zq1 fun _ => ?_ | refine zq2 fun _ => ?_ | refine zq3 ?_) | ((first | refine zq4 ?_ | refine zq5 fun _ _ => ?_ | refine zq6 ?_); simp [-getElem?_pos, z0, z1, z2, z0]) | ((first | refine AWp.ret ?_ | refine AWp.skip ?_ | refine AWp.exit ?_); try simp only [thenP]) | (with_reducible refine zq7 ?_; simp only [blockP, thenP, reduceIte]) | with_reducible refine zq8 ?_)
  (first | refine Exec0.call [46] c11 ?_ rfl ?_ ?_ | refine Exec.call [46] c11 ?_ rfl ?_ ?_); (focus simp [-getElem?_pos, z0]); (focus simp [-getElem?_pos, z0, z1, z2, z0]); simp [-getElem?_pos, z0, z1, z2, z0]
  repeat (first | (with_reducible first | refine zq1 fun _ => ?_ | refine zq2 fun _ => ?_ | refine zq3 ?_) | ((first | refine zq4 ?_ | refine zq5 fun _ _ => ?_ | refine zq6 ?_); simp [-getElem?_pos, z0, z1, z2, z0]) | ((first | refine AWp.ret ?_ | refine AWp.skip ?_ | refine AWp.exit ?_); try simp only [thenP]) | (with_reducible refine zq7 ?_; simp only [blockP, thenP, reduceIte]) | with_reducible refine zq8 ?_)
  (first | refine Exec0.call [] c12 ?_ rfl ?_ ?_ | refine Exec.call [] c12 ?_ rfl ?_ ?_); (focus simp [-getElem?_pos, z0]); (focus simp [-getElem?_pos, z0, z1, z2, z0]); simp [-getElem?_pos, z0, z1, z2, z0]
  (first | (with_reducible first | refine zq1 fun _ => ?_ | refine zq2 fun _ => ?_ | refine zq3 ?_) | ((first | refine zq4 ?_ | refine zq5 fun _ _ => ?_ | refine zq6 ?_); simp [-getElem?_pos, z0, z1, z2, z0]) | ((first | refine AWp.ret ?_ | refine AWp.skip ?_ | refine AWp.exit ?_); try simp only [thenP]) | (with_reducible refine zq7 ?_; simp only [blockP, thenP, reduceIte]) | with_reducible refine zq8 ?_)
  refine KK.go ?_
  refine AWp.fits (n := 4) (l := [(1, .d (.list [[iD 20, iD 15, iD 2], [iD 5, iD 4, iD 1], [iD 0, iD 1, iD (-3)]])), (2, .ptr 0 0 0), (3, .ptr 1 0 0), (4, .ptr 2 0 0), (5, .d (iD 0)), (7, .d (iD 16)), (8, .d (.list [[iD 0], [iD 0], [iD 1], [iD 1], [iD 2], [iD 1], [iD 1], [iD 2], [iD 2]])), (9, .d (iD 0)), (10, .d (.list [[iD 9], [iD 9], [iD 9], [iD 6], [iD 6], [iD 6], [iD 6]])), (11, .d (iD 0)), (12, .own 3 7 1), (13, .d (iD 0)), (14, .d (iD 14)), (15, .d (.list (listsD RQ))), (16, .d (iD 0)), (17, .d (.list [])), (18, .d (iD 0)), (19, .d (.list [[iD 2]])), (20, .d (iD 0)), (21, .d (.list [[iD 4], [iD (-1)], [iD (-1)], [iD (-1)], [iD (-1)], [iD (-1)], [iD (-1)]])), (22, .d (iD 0)), (23, .d (iD 0)), (25, .d (iD 13))]) (m := [(0, .box 24 [.d (iD 40), .d (iD 0)] false), (1, .box 24 [.d (iD 4), .d (iD 0)] false), (2, .box 24 [.d (iD 16), .d (iD 5)] false), (3, .row 3 1 [[iD 4], [iD (-1)], [iD (-1)], [iD (-1)], [iD (-1)], [iD (-1)], [iD (-1)]] true)]) (σ := [4, 5, 16, 46]) ⟨by rfl, by simp, by simp [or_imp, forall_and], by decide⟩ ?_
  repeat (first | (with_reducible first | refine zq1 fun _ => ?_ | refine zq2 fun _ => ?_ | refine zq3 ?_) | ((first | refine zq4 ?_ | refine zq5 fun _ _ => ?_ | refine zq6 ?_); simp [-getElem?_pos, z0, z1, z2, hlen]) | ((first | refine AWp.ret ?_ | refine AWp.skip ?_ | refine AWp.exit ?_); try simp only [thenP]) | (with_reducible refine zq7 ?_; simp only [blockP, thenP, reduceIte]) | with_reducible refine zq8 ?_)
  (first | refine Exec0.call [] ca ?_ rfl ?_ ?_ | refine Exec.call [] ca ?_ rfl ?_ ?_); (focus simp [-getElem?_pos, z0]); (focus simp [-getElem?_pos, z0, z1, z2, z0]); simp [-getElem?_pos, z0, z1, z2, z0]
  (first | refine Exec0.call [55] i1 ?_ rfl ?_ ?_ | refine Exec.call [55] i1 ?_ rfl ?_ ?_); (focus simp [-getElem?_pos, z0]); (focus simp [-getElem?_pos, z0, z1, z2, z0]); simp [-getElem?_pos, z0, z1, z2, z0]
  (first | refine Exec0.call [60] i2 ?_ rfl ?_ ?_ | refine Exec.call [60] i2 ?_ rfl ?_ ?_); (focus simp [-getElem?_pos, hlen]); (focus simp [-getElem?_pos, z0, z1, z2, hlen]); simp [-getElem?_pos, z0, z1, z2, hlen]
  (first | refine Exec0.call [] r1 ?_ rfl ?_ ?_ | refine Exec.call [] r1 ?_ rfl ?_ ?_); (focus simp [-getElem?_pos, z0]); (focus simp [-getElem?_pos, z0, z1, z2, z0]); simp [-getElem?_pos, z0, z1, z2, z0]
  (first | refine Exec0.call [83] i3 ?_ rfl ?_ ?_ | refine Exec.call [83] i3 ?_ rfl ?_ ?_); (focus simp [-getElem?_pos, z0]); (focus simp [-getElem?_pos, z0, z1, z2, z0]); simp [-getElem?_pos, z0, z1, z2, z0]
  (first | refine Exec0.call [3] i4 ?_ rfl ?_ ?_ | refine Exec.call [3] i4 ?_ rfl ?_ ?_); (focus simp [-getElem?_pos, z0]); (focus simp [-getElem?_pos, z0, z1, z2, z0]); simp [-getElem?_pos, z0, z1, z2, z0]
  repeat (first | (with_reducible first | refine zq1 fun _ => ?_ | refine zq2 fun _ => ?_ | refine zq3 ?_) | ((first | refine zq4 ?_ | refine zq5 fun _ _ => ?_ | refine zq6 ?_); simp [-getElem?_pos, z0, z1, z2, z0]) | ((first | refine AWp.ret ?_ | refine AWp.skip ?_ | refine AWp.exit ?_); try simp only [thenP]) | (with_reducible refine zq7 ?_; simp only [blockP, thenP, reduceIte]) | with_reducible refine zq8 ?_)
  (first | refine RR.ret ?_ | refine RR.normal ?_); simp [z0]
end Go.Proofs.Ytgiomfamlbmpcaa.Eng

namespace Go.Proofs.Ytgiomfamlbmpcaa.honeBoxes
open Go.ChangeShapes Go.WideShapes Go.ChangeAt Go.RowKit Go.Deep
theorem own : ownKnob Try.prog.godebug = none := by kernel_rfl
theorem kids : Kids Try.prog (· < Try.prog.types.size) := kids_rows (by kernel_rfl) (by kernel_rfl)
theorem full : ∀ t e, t < Try.prog.types.size → Try.prog.underlying t = some (.slice e) → 0 < Try.prog.cellsOf e := slices_full_of Try.prog (by kernel_rfl)
theorem rowed : ∀ t ∈ Try.f3.params.toList, t < Try.prog.types.size := of_decide_eq_true (by kernel_rfl)
set_option maxRecDepth 100000 in
set_option maxHeartbeats 1000000 in
theorem lifted (os : Os) (started : os.Started) (H : Type) (enc : TypeId × Value → H) :
    ReturnsInHanded {} Try.checked os 3 .any (Rows.honeBoxesSpec.pre6 enc Try.prog Try.f3 Rows.honeBoxesRow.domain false) (Rows.honeBoxesSpec.post enc Try.prog Try.f3 false true false false) := by
  refine returnsInHanded_of_change (C := Try.checked) own started (by kernel_rfl) Try.func3
    (ChangeSpec.witness6 (enc := enc) (C := Try.checked) false ⟨#[], #[.slice none 0 0, .agg #[.int .i64 0, .int .i64 0], .slice none 0 0], []⟩ 8 (by kernel_rfl) (by kernel_rfl) (by kernel_rfl) (by kernel_rfl)) ?_
  intro W base args ds gs before hval0 hW hcnd _
  have hval : ∀ (j : Nat) t v, Try.f3.params[j]? = some t → args[j]? = some v → Value.okWide Try.prog W .any base t v := hval0
  have hW' := hW
  obtain ⟨p, q, hA0, hV, rfl, hfz, hnd⟩ := hW
  have hA : DataW.TrodAll enc Try.prog W 0 (fun _ => true) true Try.f3.params.toList args.toList ds p := hA0
  have hAk := hA
  rw [Try.params3] at hA hval
  obtain ⟨v0, vs0, d0, ds0, a0, b0, e0, f0, rfl, h0, t0⟩ := trodAll_cons hA
  obtain ⟨v1, vs1, d1, ds1, a1, b1, e1, f1, rfl, h1, t1⟩ := trodAll_cons t0
  obtain ⟨v2, vs2, d2, ds2, a2, b2, e2, f2, rfl, h2, t2⟩ := trodAll_cons t1
  obtain ⟨en, fn, rfl⟩ := trodAll_nil t2
  subst en
  subst fn
  subst e2
  subst f2
  subst e1
  subst f1
  subst f0
  have ea : args = #[v0, v1, v2] := by rw [← Array.toList_inj]; exact e0
  subst ea
  clear e0
  obtain ⟨rfl, rfl⟩ := trodVars_none hV
  clear hA0 hval0 hA
  simp only [List.append_nil] at hW' hAk
  have o0 := hval 0 _ _ rfl rfl
  have o1 := hval 1 _ _ rfl rfl
  have o2 := hval 2 _ _ rfl rfl
  clear hval
  obtain ⟨D0, s0, r0⟩ := Eng.open_sh (n := 9) (.sl Eng.shStone) (by kernel_rfl) o0 h0
  obtain ⟨D1, s1, r1⟩ := Eng.open_sh (n := 9) (Eng.shEdge) (by kernel_rfl) o1 h1
  obtain ⟨D2, s2, r2⟩ := Eng.open_sh (n := 9) (.sl (.int .i64)) (by kernel_rfl) o2 h2
  obtain ⟨l, rfl⟩ := Eng.box_in s0
  obtain ⟨e, rfl⟩ := Eng.edge_in s1
  obtain ⟨t, rfl⟩ := Eng.ints_in s2
  refine Calls.mono (Eng.law_true (Eng.honeBoxes_c Eng.works_call l e t) rfl (Eng.reps_cons r0 (Eng.reps_cons r1 (Eng.reps_cons r2 Eng.reps_nil)))) fun e W' ⟨he, hb⟩ => ?_
  subst he
  exact ⟨_, rfl, post_later (pv := []) hW' (List.append_nil _).symm (fun _ _ _ => (trodAll_cons_mk (shut_bool Try.underlying4 _) trodAll_mk0))
    (fun sp hsp => Eng.args_later' kids full rowed hAk hb hsp) (fun _ _ => rfl) (ok_one (by kernel_rfl) rfl (okWide_bool_mk Try.underlying4 _)) hb⟩
theorem over : Rows.honeBoxesRow.holds Try.pinned (OpenSpec.ofChange Rows.honeBoxesSpec) :=
  OpenClaim.holds_of_wide 3 Try.f3 rfl rfl rfl rfl rfl rfl rfl ⟨rfl, rfl, rfl, rfl, rfl⟩ rfl rfl rfl rfl rfl (by kernel_rfl) Try.func3 (by kernel_rfl)
    (of_decide_eq_true (by kernel_rfl)) (by unfold Func.isWrapper; first | (rw [if_pos (by decide +kernel)]; kernel_rfl) | (rw [if_neg (by decide +kernel)]; exact ⟨rfl, rfl⟩))
    (fun os started H enc _ => lifted os started H enc)
theorem proved : Rows.HoneBoxesSaid := over
end Go.Proofs.Ytgiomfamlbmpcaa.honeBoxes
