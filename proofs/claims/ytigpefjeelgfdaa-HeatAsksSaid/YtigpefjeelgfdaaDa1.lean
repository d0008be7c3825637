/-
  HeatAsks returns true, for every works and measured range: what to ask for, and how many recipes are left at worst then, are what the definitions say, or the error. No condition.
-/
import Derived.Test.YtigpefjeelgfdaaDb7
import Derived.ProofKit
import Derived.OpenShut
import Derived.Below
import Derived.ChangeSame
import Derived.ReadAgain
import Derived.Deep.Slices
set_option linter.unusedSimpArgs false
set_option linter.unusedVariables false
/-
  The last step of a law's row, from 'what was there is as it was' alone.
-/
namespace Go.Proofs.Ytigpefjeelgfdaa
open Go.ChangeShapes Go.WideShapes Go.ChangeAt Go.RowKit

/-- A law that takes no package variable: it answers, what was there is as it was, and the arguments read as they did. -/
theorem post_later {H : Type} {enc : TypeId × Value → H} {P : Program} {f : Func} {s : ChangeSpec} {apart fresh handsOn again : Bool} {W W' : World} {args : Array Value} {v : Value} {ds gs : List (DataW H)} {before pa pv : List MemPlace}
    (hW : DataW.Whole enc P f.params.toList s.vars apart W args.toList ds gs before) (hsplit : before = pa ++ pv)
    (hr : ∀ (b : Nat) (sp : Nat → Bool) (hd : Bool), DataW.TrodAll enc P W' b sp hd f.resultTypes.toList (v.resultList f.resultTypes.size) (s.fn H (ds ++ gs)).results [])
    (ha : ∀ sp : Nat → Bool, (∀ p ∈ before, sp p.block = true) → DataW.TrodAll enc P W' 0 sp true f.params.toList args.toList (s.fn H (ds ++ gs)).args pa)
    (hv : ∀ sp : Nat → Bool, (∀ p ∈ before, sp p.block = true) → DataW.TrodVars enc P W' sp s.vars (s.fn H (ds ++ gs)).vars pv)
    (hk : ∀ (j : Nat) (t : TypeId) (r : Value), f.resultTypes[j]? = some t → (v.resultList f.resultTypes.size)[j]? = some r → Value.okWide P W' .any 0 t r)
    (hb : Below W.heap.size W W') : s.post enc P f apart fresh handsOn again W args v W' := by
  have inside : ∀ p, p ∈ before → p.block < W.heap.size := fun p hp => hW.lt p hp
  have keep : ∀ p ∈ before, (decide ((p : MemPlace).block < W.heap.size)) = true := fun p hp => decide_eq_true (inside p hp)
  refine ⟨ds, gs, before, [], pa, pv, hW, hr _ _ _, ha (fun b => decide (b < W.heap.size)) keep, hv (fun b => decide (b < W.heap.size)) keep, ?_, ?_⟩
  · refine World.keptBut_mono (fun p hp => ⟨hp, ?_⟩) (hb.frame (· ∈ before))
    right
    rw [hsplit, List.mem_append] at hp
    exact hp
  · intro _
    obtain ⟨_, _, _, _, _, hz, hn⟩ := hW
    have e : [] ++ pa ++ pv = before := by rw [hsplit, List.nil_append]
    refine ⟨hk, _, _, [] ++ pa ++ pv, ⟨[] ++ pa, pv, trodAll_append (ha _ fun _ _ => rfl) (hr _ _ _), hv _ fun _ _ => rfl, rfl, fun b off hp => ?_, fun h => ?_⟩, fun p hp _ => ?_⟩
    · rw [e] at hp
      rw [hb.frozen (inside _ hp)]
      exact hz b off hp
    · have := hn h
      rw [← e] at this
      simpa using this
    · rw [e] at hp
      simpa using hp
end Go.Proofs.Ytigpefjeelgfdaa

/-
  What came in, as the words of these texts have it: slices, structs, works, recipes; and that it reads again behind a call that leaves it alone.
-/
namespace Go.Proofs.Ytigpefjeelgfdaa
open Go.ChangeShapes Go.WideShapes Go.ChangeAt Go.RowKit Go.Deep

section
variable {H : Type} {enc : TypeId × Value → H} {P : Program} {w : World}

theorem list_of {α : Type} {R : Nat → α → Prop} : ∀ (n : Nat), (∀ i, i < n → ∃ x, R i x) → ∃ l : List α, l.length = n ∧ ∀ i x, l[i]? = some x → R i x
  | 0, _ => ⟨[], rfl, fun i x h => by simp at h⟩
  | n + 1, h => by
    obtain ⟨l, hl, hx⟩ := list_of n fun i hi => h i (by omega)
    obtain ⟨y, hy⟩ := h n (by omega)
    refine ⟨l ++ [y], by simp [hl], fun i x hi => ?_⟩
    rcases Nat.lt_or_ge i n with h1 | h1
    · rw [List.getElem?_append_left (by omega)] at hi
      exact hx i x hi
    · rw [List.getElem?_append_right (by omega)] at hi
      have : i = n := by
        have := (List.getElem?_eq_some_iff.1 hi).1
        simp at this
        omega
      subst this
      simp [hl] at hi
      subst hi
      exact hy

/-- An element that is read off cells. -/
def ElemOf (enc : TypeId × Value → H) (P : Program) (w : World) {α : Type} (R : World → Nat → Nat → α → Prop) (size : Nat) (e : TypeId) : Prop :=
  ∀ (b off : Nat) (cs : List Value) (n : Nat) (x : DataW H × List MemPlace), b < w.heap.size → cs.length = size → (∀ j u, cs[j]? = some u → w.cell? ⟨b, off + j, none⟩ = some u) → DataW.trod enc P w 0 (fun _ => true) true n e cs = some x → ∃ y, R w b off y

theorem open_sl {α : Type} {R : World → Nat → Nat → α → Prop} {size : Nat} {t e : TypeId} {fuel : Nat} {cs : List Value} {x : DataW H × List MemPlace} (ht : P.underlying t = some (.slice e)) (hc : P.cellsOf e = size) (h0 : 0 < size)
    (he : ElemOf enc P w R size e) (h : DataW.trod enc P w 0 (fun _ => true) true fuel t cs = some x) : ∃ v l, cs = [v] ∧ SL R size w w.heap.size v l := by
  rcases open_slice ht h with ⟨h1, _⟩ | ⟨a, len, cap, m, n, D, Pl, hcs, hb, hl, hmx, hm, hx, hel⟩
  · exact ⟨_, [], h1, SL.nil _ _ _ _⟩
  · have hmc : m = cap := by simpa using hm
    obtain ⟨b, off, spot⟩ := a
    have cell : ∀ i, i < m → ∃ cs', cs'.length = size ∧ (∀ j u, cs'[j]? = some u → w.cell? (Addr.add ⟨b, off, spot⟩ (i * size + j)) = some u) ∧ DataW.trod enc P w 0 (fun _ => true) true n e cs' = some (D i, Pl i) := by
      intro i hi
      obtain ⟨cs', h1, h2⟩ := hel i hi
      rw [hc] at h1
      obtain ⟨_, hlen, hat⟩ := World.cells?_some h1
      refine ⟨cs', hlen, fun j u hj => ?_, h2⟩
      have hjl : j < size := by rw [← hlen]; exact (List.getElem?_eq_some_iff.1 hj).1
      rw [← Go.Deep.add_add, hat j hjl, hj]
    have spot0 : 0 < m → spot = none := fun hm0 => by
      obtain ⟨cs', h1, h2, _⟩ := cell 0 hm0
      have h3 : cs'[0]? = some (cs'[0]'(by omega)) := List.getElem?_eq_getElem (by omega)
      have := World.cell?_spot (h2 0 _ h3)
      simpa [Addr.add] using this
    by_cases hm0 : len = 0
    · subst hm0
      exact ⟨_, [], hcs, some ⟨b, off, spot⟩, cap, rfl, by simp, by unfold maxLen at hmx; omega, fun h => absurd h (by simp)⟩
    have hsp := spot0 (by omega)
    subst hsp
    have hb2 : b < w.heap.size := by
      obtain ⟨cs', h1, h2, _⟩ := cell 0 (by omega)
      have h3 : cs'[0]? = some (cs'[0]'(by omega)) := List.getElem?_eq_getElem (by omega)
      have h4 := World.block_lt_of_cell? w _ (h2 0 _ h3)
      simpa [Addr.add] using h4
    obtain ⟨l, hll, hlx⟩ := list_of (R := fun i y => R w b (off + i * size) y) len fun i hi => by
      obtain ⟨cs', h1, h2, h3⟩ := cell i (by omega)
      refine he b (off + i * size) cs' n _ hb2 h1 (fun j u hj => ?_) h3
      have := h2 j u hj
      by_cases e0 : i * size + j = 0
      · rw [e0] at this
        have e1 : off + i * size + j = off := by omega
        rw [e1]
        simpa [Addr.add] using this
      · simp only [Addr.add, if_neg e0] at this
        rwa [Nat.add_assoc]
    exact ⟨_, l, hcs, some ⟨b, off, none⟩, cap, by rw [hll], by omega, by unfold maxLen at hmx; omega, fun _ => ⟨b, off, rfl, hb2, hlx⟩⟩

theorem elem_int {k : IntKind} {e : TypeId} (he : P.underlying e = some (.int k)) : ElemOf enc P w (IntAt k) 1 e := by
  intro b off cs n x hb hl hat h
  obtain ⟨m, rfl, _⟩ := DataW.trod_int he h
  exact ⟨m, hat 0 _ rfl⟩
theorem elem_range {e ti : TypeId} {f0 f1 : Field} (he : P.underlying e = some (.struct #[f0, f1])) (h0 : f0.type = ti) (h1 : f1.type = ti) (o0 : f0.offset = 0) (o1 : f1.offset = 1) (hi : P.underlying ti = some (.int .i64)) (hc : P.cellsOf ti = 1) : ElemOf enc P w RgAt 2 e := by
  intro b off cs n x hb hl hat h
  obtain ⟨y0, y1, m, _, _, g0, g1⟩ := trod_struct2 he h
  rw [h0, hc, o0] at g0
  rw [h1, hc, o1] at g1
  match cs, hl with
  | [u, v], _ =>
    obtain ⟨n0, e0, _⟩ := DataW.trod_int hi g0
    obtain ⟨n1, e1, _⟩ := DataW.trod_int hi g1
    simp at e0 e1
    subst e0
    subst e1
    exact ⟨(n0, n1), hat 0 _ rfl, hat 1 _ rfl⟩
theorem elem_kink {e ti tr : TypeId} {f0 f1 g0 g1 : Field} (he : P.underlying e = some (.struct #[f0, f1])) (hr : P.underlying tr = some (.struct #[g0, g1])) (h0 : f0.type = ti) (h1 : f1.type = tr) (o0 : f0.offset = 0) (o1 : f1.offset = 1)
    (k0 : g0.type = ti) (k1 : g1.type = ti) (p0 : g0.offset = 0) (p1 : g1.offset = 1) (hi : P.underlying ti = some (.int .i64)) (hc : P.cellsOf ti = 1) (hcr : P.cellsOf tr = 2) : ElemOf enc P w KinkAt 3 e := by
  intro b off cs n x hb hl hat h
  obtain ⟨y0, y1, m, _, _, q0, q1⟩ := trod_struct2 he h
  rw [h0, hc, o0] at q0
  rw [h1, hcr, o1] at q1
  obtain ⟨z0, z1, m1, _, _, r0, r1⟩ := trod_struct2 hr q1
  rw [k0, hc, p0] at r0
  rw [k1, hc, p1] at r1
  match cs, hl with
  | [u, v, t], _ =>
    obtain ⟨n0, e0, _⟩ := DataW.trod_int hi q0
    obtain ⟨n1, e1, _⟩ := DataW.trod_int hi r0
    obtain ⟨n2, e2, _⟩ := DataW.trod_int hi r1
    simp at e0 e1 e2
    subst e0
    subst e1
    subst e2
    exact ⟨⟨n0, n1, n2⟩, hat 0 _ rfl, hat 1 _ rfl, hat 2 _ rfl⟩
/-- A struct whose only field is a slice. -/
theorem elem_box {α : Type} {R : World → Nat → Nat → α → Prop} {size : Nat} {e ts te : TypeId} {f0 : Field} (he : P.underlying e = some (.struct #[f0])) (h0 : f0.type = ts) (o0 : f0.offset = 0) (hs : P.underlying ts = some (.slice te)) (hcs : P.cellsOf ts = 1) (hc : P.cellsOf te = size) (hz : 0 < size)
    (hel : ElemOf enc P w R size te) : ElemOf enc P w (fun w b off l => ∃ v, w.cell? ⟨b, off, none⟩ = some v ∧ SL R size w w.heap.size v l) 1 e := by
  intro b off cs n x hb hl hat h
  obtain ⟨y0, m, _, _, q0⟩ := trod_struct1 he h
  rw [h0, hcs, o0] at q0
  match cs, hl with
  | [u], _ =>
    obtain ⟨v, l, hv, hsl⟩ := open_sl hs hc hz hel q0
    simp at hv
    subst hv
    exact ⟨l, u, hat 0 _ rfl, hsl⟩

/-- What came in reads again, where all that was there is as it was. -/
theorem args_later {W W' : World} {T : TypeId → Prop} (K : Kids P T) (hz : ∀ t e, T t → P.underlying t = some (.slice e) → 0 < P.cellsOf e) {ts : List TypeId} {vs : List Value} {ds : List (DataW H)} {ps : List MemPlace}
    (hT : ∀ t ∈ ts, T t) (h : DataW.TrodAll enc P W 0 (fun _ => true) true ts vs ds ps) (hb : Below W.heap.size W W') {sp : Nat → Bool} (hs : ∀ p ∈ ps, sp p.block = true) : DataW.TrodAll enc P W' 0 sp true ts vs ds ps := by
  have carry : ∀ {ts : List TypeId} {vs : List Value} {ds : List (DataW H)} {ps : List MemPlace}, DataW.TrodAll enc P W 0 (fun _ => true) true ts vs ds ps → DataW.TrodAll enc P W' 0 (fun _ => true) true ts vs ds ps := by
    intro ts
    induction ts with
    | nil =>
      intro vs ds ps h
      obtain ⟨rfl, rfl, rfl⟩ := trodAll_nil h
      rfl
    | cons t ts ih =>
      intro vs ds ps h
      obtain ⟨v, vs1, d, ds1, a, b, rfl, rfl, rfl, ⟨n, h1⟩, h2⟩ := trodAll_cons h
      refine ⟨a, b, ⟨n, DataW.trod_carry n _ _ _ h1 fun p hp => ?_⟩, ih h2, rfl⟩
      have hlt := DataW.trod_lt n _ _ _ h1 p hp
      cases p with
      | cell bl off => exact hb.cell (p := ⟨bl, off, none⟩) hlt
      | map bl => exact hb.block bl hlt
  exact (carry h).respare K hz hT hs
end
end Go.Proofs.Ytigpefjeelgfdaa

/-
  What came in, at the types of layer 1's statements.
-/
namespace Go.Proofs.Ytigpefjeelgfdaa
open Go.ChangeShapes Go.WideShapes Go.ChangeAt Go.RowKit Go.Deep

theorem kids : Kids Try.prog (· < Try.prog.types.size) := kids_rows (by kernel_rfl) (by kernel_rfl)
theorem full : ∀ t e, t < Try.prog.types.size → Try.prog.underlying t = some (.slice e) → 0 < Try.prog.cellsOf e := slices_full_of Try.prog (by kernel_rfl)

theorem list_two {l : List Value} (h : l.toArray.size = 2) : ∃ a b, l = [a, b] := by
  rcases l with _ | ⟨a, _ | ⟨b, _ | ⟨c, l⟩⟩⟩
  · simp at h
  · simp at h
  · exact ⟨a, b, rfl⟩
  · simp at h
theorem list_one {l : List Value} (h : l.toArray.size = 1) : ∃ a, l = [a] := by
  rcases l with _ | ⟨a, _ | ⟨b, l⟩⟩
  · simp at h
  · exact ⟨a, rfl⟩
  · simp at h
theorem one_eq {u v : Value} (h : [u] = [v]) : u = v := by simpa using h
section
variable {H : Type} {enc : TypeId × Value → H} {w : World}
theorem el_i64 : ElemOf enc Try.prog w (IntAt .i64) 1 (2 : Nat) := elem_int Try.underlying2
theorem el_int : ElemOf enc Try.prog w (IntAt .i64) 1 (3 : Nat) := elem_int Try.underlying3
theorem el_range : ElemOf enc Try.prog w RgAt 2 (33 : Nat) := elem_range Try.underlying33 rfl rfl rfl rfl Try.underlying2 (by kernel_rfl)
theorem el_kink : ElemOf enc Try.prog w KinkAt 3 (93 : Nat) := elem_kink Try.underlying93 Try.underlying33 rfl rfl rfl rfl rfl rfl rfl rfl Try.underlying2 (by kernel_rfl) (by kernel_rfl)
theorem el_way : ElemOf enc Try.prog w (fun w b off l => ∃ v, w.cell? ⟨b, off, none⟩ = some v ∧ SL KinkAt 3 w w.heap.size v l) 1 (28 : Nat) :=
  elem_box Try.underlying28 rfl rfl Try.underlying26 (by kernel_rfl) (by kernel_rfl) (by decide) el_kink
theorem el_step : ElemOf enc Try.prog w (fun w b off l => ∃ v, w.cell? ⟨b, off, none⟩ = some v ∧ SL (fun w b off l => ∃ v, w.cell? ⟨b, off, none⟩ = some v ∧ SL KinkAt 3 w w.heap.size v l) 1 w w.heap.size v l) 1 (88 : Nat) :=
  elem_box Try.underlying88 rfl rfl Try.underlying86 (by kernel_rfl) (by kernel_rfl) (by decide) el_way

set_option maxRecDepth 100000 in
theorem open_works {base : Nat} {v : Value} {d : DataW H} {p : List MemPlace} (hv : Value.okWide Try.prog w .any base (25 : Nat) v) (h : DataW.Trod enc Try.prog w 0 (fun _ => true) true (25 : Nat) v d p) :
    ∃ (Ab As : Option Addr) (cb cs : Nat) (x : Works), v = .agg #[.slice Ab x.bars.length cb, .slice As x.steps.length cs] ∧ In w w.heap.size Ab As none cb cs 0 x [] := by
  obtain ⟨⟨l⟩, rfl, hsz⟩ := okWide_struct Try.underlying25 hv
  obtain ⟨fuel, hf⟩ := h
  obtain ⟨y0, y1, n, _, _, g0, g1⟩ := trod_struct2 Try.underlying25 hf
  have hc : Try.prog.cellsOf (25 : Nat) = 2 := by kernel_rfl
  rw [hc] at hsz
  obtain ⟨u0, u1, rfl⟩ := list_two hsz
  obtain ⟨v0, bars, e0, A0, c0, k0, k1, k2, s0⟩ := open_sl Try.underlying22 (by kernel_rfl) (by decide) el_range g0
  obtain ⟨v1, steps, e1, A1, c1, j0, j1, j2, s1⟩ := open_sl Try.underlying23 (by kernel_rfl) (by decide) el_step g1
  have q0 : u0 = v0 := one_eq e0
  have q1 : u1 = v1 := one_eq e1
  subst q0
  subst q1
  subst k0
  subst j0
  exact ⟨A0, A1, c0, c1, ⟨bars, steps⟩, rfl, ⟨s0, s1, fun h => absurd h (by simp), k1, k2, j1, j2, by simp, by omega, Nat.le_refl _⟩⟩
set_option maxRecDepth 100000 in
theorem open_way {base : Nat} {v : Value} {d : DataW H} {p : List MemPlace} (hv : Value.okWide Try.prog w .any base (28 : Nat) v) (h : DataW.Trod enc Try.prog w 0 (fun _ => true) true (28 : Nat) v d p) :
    ∃ (A : Option Addr) (c : Nat) (ks : List Kink), v = .agg #[.slice A ks.length c] ∧ KinksA w w.heap.size A ks ∧ ks.length ≤ c ∧ c ≤ 9223372036854775807 := by
  obtain ⟨⟨l⟩, rfl, hsz⟩ := okWide_struct Try.underlying28 hv
  obtain ⟨fuel, hf⟩ := h
  obtain ⟨y0, n, _, _, g0⟩ := trod_struct1 Try.underlying28 hf
  have hc : Try.prog.cellsOf (28 : Nat) = 1 := by kernel_rfl
  rw [hc] at hsz
  obtain ⟨u0, rfl⟩ := list_one hsz
  obtain ⟨v0, ks, e0, A0, c0, k0, k1, k2, s0⟩ := open_sl Try.underlying26 (by kernel_rfl) (by decide) el_kink g0
  have q0 : u0 = v0 := one_eq e0
  subst q0
  subst k0
  exact ⟨A0, c0, ks, rfl, s0, k1, k2⟩
set_option maxRecDepth 100000 in
theorem open_recipe {base : Nat} {v : Value} {d : DataW H} {p : List MemPlace} (hv : Value.okWide Try.prog w .any base (42 : Nat) v) (h : DataW.Trod enc Try.prog w 0 (fun _ => true) true (42 : Nat) v d p) :
    ∃ (bar : Int) (A : Option Addr) (c : Nat) (ways : List Int), v = .agg #[.int .i64 bar, .slice A ways.length c] ∧ IntsA .i64 w w.heap.size A ways ∧ ways.length ≤ c ∧ c ≤ 9223372036854775807 := by
  obtain ⟨⟨l⟩, rfl, hsz⟩ := okWide_struct Try.underlying42 hv
  obtain ⟨fuel, hf⟩ := h
  obtain ⟨y0, y1, n, _, _, g0, g1⟩ := trod_struct2 Try.underlying42 hf
  have hc : Try.prog.cellsOf (42 : Nat) = 2 := by kernel_rfl
  rw [hc] at hsz
  obtain ⟨u0, u1, rfl⟩ := list_two hsz
  obtain ⟨bar, e0, _⟩ := DataW.trod_int Try.underlying3 g0
  obtain ⟨v1, ways, e1, A1, c1, j0, j1, j2, s1⟩ := open_sl Try.underlying40 (by kernel_rfl) (by decide) el_int g1
  have q0 : u0 = .int .i64 bar := one_eq e0
  have q1 : u1 = v1 := one_eq e1
  subst q0
  subst q1
  subst j0
  exact ⟨bar, A1, c1, ways, rfl, s1, j1, j2⟩
set_option maxRecDepth 100000 in
theorem open_measured {base : Nat} {v : Value} {d : DataW H} {p : List MemPlace} (hv : Value.okWide Try.prog w .any base (33 : Nat) v) (h : DataW.Trod enc Try.prog w 0 (fun _ => true) true (33 : Nat) v d p) :
    ∃ lo hi : Int, v = .agg #[.int .i64 lo, .int .i64 hi] := by
  obtain ⟨⟨l⟩, rfl, hsz⟩ := okWide_struct Try.underlying33 hv
  obtain ⟨fuel, hf⟩ := h
  obtain ⟨y0, y1, n, _, _, g0, g1⟩ := trod_struct2 Try.underlying33 hf
  have hc : Try.prog.cellsOf (33 : Nat) = 2 := by kernel_rfl
  rw [hc] at hsz
  obtain ⟨u0, u1, rfl⟩ := list_two hsz
  obtain ⟨lo, e0, _⟩ := DataW.trod_int Try.underlying2 g0
  obtain ⟨hi, e1, _⟩ := DataW.trod_int Try.underlying2 g1
  have q0 : u0 = .int .i64 lo := one_eq e0
  have q1 : u1 = .int .i64 hi := one_eq e1
  subst q0
  subst q1
  exact ⟨lo, hi, rfl⟩
set_option maxRecDepth 100000 in
theorem open_int {base : Nat} {t : TypeId} {k : IntKind} {v : Value} {d : DataW H} {p : List MemPlace} (ht : Try.prog.underlying t = some (.int k)) (hv : Value.okWide Try.prog w .any base t v) (h : DataW.Trod enc Try.prog w 0 (fun _ => true) true t v d p) :
    ∃ n : Int, v = .int k n ∧ (Lit.int k n).wf = true := by
  obtain ⟨n, rfl⟩ := okWide_int ht hv
  obtain ⟨fuel, hf⟩ := h
  obtain ⟨m, e, _, hw⟩ := DataW.trod_int ht hf
  have e2 : Value.int k n = .int k m := one_eq e
  obtain rfl : n = m := by simpa using e2
  exact ⟨n, rfl, hw⟩
set_option maxRecDepth 100000 in
theorem open_list {k : IntKind} {t e : TypeId} {base : Nat} {v : Value} {d : DataW H} {p : List MemPlace} (ht : Try.prog.underlying t = some (.slice e)) (hc : Try.prog.cellsOf e = 1) (he : Try.prog.underlying e = some (.int k)) (hv : Value.okWide Try.prog w .any base t v) (h : DataW.Trod enc Try.prog w 0 (fun _ => true) true t v d p) :
    ∃ (A : Option Addr) (c : Nat) (l : List Int), v = .slice A l.length c ∧ IntsA k w w.heap.size A l ∧ l.length ≤ c ∧ c ≤ 9223372036854775807 := by
  obtain ⟨a, n, c, rfl⟩ := okWide_slice ht hv
  obtain ⟨fuel, hf⟩ := h
  obtain ⟨v1, l, e1, A1, c1, j0, j1, j2, s1⟩ := open_sl ht hc (by decide) (elem_int he) hf
  have q1 : Value.slice a n c = v1 := one_eq e1
  subst q1
  rw [j0]
  exact ⟨A1, c1, l, rfl, s1, j1, j2⟩
end
end Go.Proofs.Ytigpefjeelgfdaa

namespace Go.Proofs.Ytigpefjeelgfdaa.heatAsks
open Go.ChangeShapes Go.WideShapes Go.ChangeAt Go.RowKit

theorem own : ownKnob Try.prog.godebug = none := by kernel_rfl
theorem rowed : ∀ t ∈ Try.f7.params.toList, t < Try.prog.types.size := of_decide_eq_true (by kernel_rfl)

set_option maxRecDepth 100000 in
set_option maxHeartbeats 1000000 in
theorem lifted (os : Os) (started : os.Started) (H : Type) (enc : TypeId × Value → H) :
    ReturnsInHanded {} Try.checked os 7 .any (Rows.heatAsksSpec.pre6 enc Try.prog Try.f7 Rows.heatAsksRow.domain false) (Rows.heatAsksSpec.post enc Try.prog Try.f7 false true false false) := by
  refine returnsInHanded_of_change (C := Try.checked) own started (by kernel_rfl) Try.func7
    (ChangeSpec.witness6 (enc := enc) (C := Try.checked) false ⟨#[], #[.agg #[.slice none 0 0, .slice none 0 0], .agg #[.int .i64 0, .int .i64 0]], []⟩ 8 (by kernel_rfl) (by kernel_rfl) (by kernel_rfl) (by kernel_rfl)) ?_
  intro W base args ds gs before hval0 hW hcnd _
  have hval : ∀ (j : Nat) t v, Try.f7.params[j]? = some t → args[j]? = some v → Value.okWide Try.prog W .any base t v := hval0
  have hW' := hW
  obtain ⟨p, q, hA0, hV, rfl, hfz, hnd⟩ := hW
  have hA : DataW.TrodAll enc Try.prog W 0 (fun _ => true) true Try.f7.params.toList args.toList ds p := hA0
  have hAk := hA
  rw [Try.params7] at hA hval
  obtain ⟨v0, vs0, d0, ds0, a0, b0, e0, f0, rfl, h0, t0⟩ := trodAll_cons hA
  obtain ⟨v1, vs1, d1, ds1, a1, b1, e1, f1, rfl, h1, t1⟩ := trodAll_cons t0
  obtain ⟨en, fn, rfl⟩ := trodAll_nil t1
  subst en
  subst fn
  subst e1
  subst f1
  subst f0
  have ea : args = #[v0, v1] := by rw [← Array.toList_inj]; exact e0
  subst ea
  clear e0
  obtain ⟨rfl, rfl⟩ := trodVars_none hV
  clear hA0 hval0 hA
  simp only [List.append_nil] at hW' hAk
  have o0 := hval 0 _ _ rfl rfl
  have o1 := hval 1 _ _ rfl rfl
  clear hval
  obtain ⟨Ab, As, cb, cs, x, rfl, hin⟩ := open_works o0 h0
  obtain ⟨lo, hi, rfl⟩ := open_measured o1 h1
  refine Calls.mono (Eng.asksLaw_any lo hi hin) fun e W' ⟨he, hb⟩ => ?_
  subst he
  exact ⟨_, rfl, post_later (pv := []) hW' (List.append_nil _).symm (fun _ _ _ => (trodAll_cons_mk (shut_bool Try.underlying4 _) trodAll_mk0))
    (fun sp hsp => args_later kids full rowed hAk hb hsp) (fun _ _ => rfl) (ok_one (by kernel_rfl) rfl (okWide_bool_mk Try.underlying4 _)) hb⟩

theorem over : Rows.heatAsksRow.holds Try.pinned (OpenSpec.ofChange Rows.heatAsksSpec) :=
  OpenClaim.holds_of_wide 7 Try.f7 rfl rfl rfl rfl rfl rfl rfl ⟨rfl, rfl, rfl, rfl, rfl⟩ rfl rfl rfl rfl rfl (by kernel_rfl) Try.func7 (by kernel_rfl)
    (of_decide_eq_true (by kernel_rfl)) (by unfold Func.isWrapper; first | (rw [if_pos (by decide +kernel)]; kernel_rfl) | (rw [if_neg (by decide +kernel)]; exact ⟨rfl, rfl⟩))
    (fun os started H enc _ => lifted os started H enc)

theorem proved : Rows.HeatAsksSaid := over
end Go.Proofs.Ytigpefjeelgfdaa.heatAsks
