/-
  A part of the texts that the claim builds on: see the last one.
-/
import Derived.Test.YtgiomfamlbmpcaaDw5
set_option linter.unusedSimpArgs false
set_option linter.unusedVariables false
namespace Go.Proofs.Ytgiomfamlbmpcaa.Eng
open Go.RowKit
def atL (L : List Int) (i : Nat) : Int := L.getD i 0
theorem atL_of {L : List Int} {i : Nat} {x : Int} (h : L[i]? = some x) : atL L i = x := by rw [atL, List.getD_eq_getElem?_getD, h]; rfl
def descTo (L : List Int) (k : Nat) : Bool := (List.range k).all fun i => i == 0 || decide (atL L i ≤ atL L (i - 1))
def rowOfB (L : List Int) : Bool := decide (L.length = 7) && fromK (-1) 100 L && descTo L 7
def rowOfR (L : List Int) : Nat → Int := if rowOfB L then fun i => atL L i + 1 else fun _ => 0
theorem descTo_succ (L : List Int) (k : Nat) : descTo L (k + 1) = (descTo L k && (k == 0 || decide (atL L k ≤ atL L (k - 1)))) := by
  simp [descTo, List.range_succ, List.all_append]
set_option maxRecDepth 100000 in
set_option maxHeartbeats 8000000 in
theorem rowOf_x (L : List Int) (hl : L.length ≤ 1000000) (n : Nat) (m : Mem) :
    CWp Try.prog 76 [.d (intL L)] n m fun y _ m' => (∀ j, j < n → m' j = m j) ∧ toD3 y = some (.tup [rowD (rowOfR L), bD (rowOfB L)]) := by
  have ca := areFrom_c (-1) 100 L hl
  by_cases h7 : L.length = 7
  · have h7i : (L.length : Int) = 7 := by omega
    rcases hf : fromK (-1) 100 L <;> rw [hf] at ca
    · have hB : rowOfB L = false := by simp [rowOfB, hf]
      have hR : rowOfR L = fun _ => 0 := by rw [rowOfR, hB]; rfl
      refine cwpK tabOk Try.func76 rfl rfl (show 1 ≤ _ by decide) rfl fun _ => ?_; simp only [Try.ntmps76]
      repeat (first | (with_reducible first | refine AWi.seqK fun _ => ?_ | refine AWi.blockK fun _ => ?_ | refine KI.go ?_) | ((first | refine AWi.region tabOk ?_ | refine AWi.condK fun _ _ => ?_ | refine AWi.draws tabOk rfl (by kernel_rfl) (by kernel_rfl) ?_); simp [-getElem?_pos, z0, z1, z2, h7i]) | ((first | refine AWi.ret ?_ | refine AWi.skip ?_ | refine AWi.exit ?_); try simp only [thenP]) | (with_reducible refine BB.go ?_; simp only [blockP, thenP, reduceIte]))
      refine ExecI.call [] ca ?_ rfl ?_ ?_; (focus simp [-getElem?_pos, h7i]); (focus simp [-getElem?_pos, z0, z1, z2, h7i]); simp [-getElem?_pos, z0, z1, z2, h7i]
      repeat (first | (with_reducible first | refine AWi.seqK fun _ => ?_ | refine AWi.blockK fun _ => ?_ | refine KI.go ?_) | ((first | refine AWi.region tabOk ?_ | refine AWi.condK fun _ _ => ?_ | refine AWi.draws tabOk rfl (by kernel_rfl) (by kernel_rfl) ?_); simp [-getElem?_pos, z0, z1, z2, h7i]) | ((first | refine AWi.ret ?_ | refine AWi.skip ?_ | refine AWi.exit ?_); try simp only [thenP]) | (with_reducible refine BB.go ?_; simp only [blockP, thenP, reduceIte]))
      refine RI.ret (xs := [.agg (rowS fun _ => 0), .d (bD false)]) (by simp [Try.results76, resSlots, resSlot, bD]; rfl) ?_
      refine ⟨fun j hj => ?_, by rw [hB, hR]; rfl⟩
      simp [show ¬ j = n by omega, show ¬ j = n + 1 + 1 by omega]
    · have key : ∀ k, k ≤ 7 → descTo L 7 = true → descTo L k = true := fun k hk h => by
        rw [descTo, List.all_eq_true] at h ⊢
        exact fun i hi => h i (by rw [List.mem_range] at hi ⊢; omega)
      refine cwpK tabOk Try.func76 rfl rfl (show 1 ≤ _ by decide) rfl fun _ => ?_; simp only [Try.ntmps76]
      repeat (first | (with_reducible first | refine AWi.seqK fun _ => ?_ | refine AWi.blockK fun _ => ?_ | refine KI.go ?_) | ((first | refine AWi.region tabOk ?_ | refine AWi.condK fun _ _ => ?_ | refine AWi.draws tabOk rfl (by kernel_rfl) (by kernel_rfl) ?_); simp [-getElem?_pos, z0, z1, z2, h7i]) | ((first | refine AWi.ret ?_ | refine AWi.skip ?_ | refine AWi.exit ?_); try simp only [thenP]) | (with_reducible refine BB.go ?_; simp only [blockP, thenP, reduceIte]))
      refine ExecI.call [] ca ?_ rfl ?_ ?_; (focus simp [-getElem?_pos, h7i]); (focus simp [-getElem?_pos, z0, z1, z2, h7i]); simp [-getElem?_pos, z0, z1, z2, h7i]
      repeat (first | (with_reducible first | refine AWi.seqK fun _ => ?_ | refine AWi.blockK fun _ => ?_ | refine KI.go ?_) | ((first | refine AWi.region tabOk ?_ | refine AWi.condK fun _ _ => ?_ | refine AWi.draws tabOk rfl (by kernel_rfl) (by kernel_rfl) ?_); simp [-getElem?_pos, z0, z1, z2, h7i]) | ((first | refine AWi.ret ?_ | refine AWi.skip ?_ | refine AWi.exit ?_); try simp only [thenP]) | (with_reducible refine BB.go ?_; simp only [blockP, thenP, reduceIte]))
      refine AWi.loopK (ι := { k : Nat // k ≤ 7 }) (fun k n1 s => n + 1 + 1 + 1 ≤ n1 ∧ s.slots 0 = .d (intL L) ∧ s.slots 2 = .ptr n 0 0 ∧ s.slots 4 = .ptr (n + 1 + 1) 0 0 ∧ s.slots 16 = .d (intL L) ∧ s.slots 17 = .d (iD 7) ∧ s.slots 18 = .d (iD k.1) ∧ s.mem n = some (.box 83 (rowS fun _ => 0) false) ∧ s.mem (n + 1 + 1) = some (.box 83 (rowS fun i => if i < k.1 then atL L i + 1 else 0) false) ∧ (∀ j, j < n → s.mem j = m j) ∧ descTo L k.1 = true) (fun k => 7 - k.1) ⟨0, by omega⟩ ?_ ?_
      · exact ⟨by omega, by simp, by simp, by simp, by simp, by simp [iD], by simp [iD], by simp; rfl, by simp; rfl, fun j hj => by simp [show ¬ j = n by omega, show ¬ j = n + 1 + 1 by omega], rfl⟩
      rintro ⟨k, hk⟩ n1 s ⟨hle, s0, s2, s4, s16, s17, s18, mn, mr, low, hd⟩ kk
      simp only at s18 mr hd
      have w1 : IntKind.i64.wrap ((k : Int) + 1) = (k : Int) + 1 := wrap64_in (by omega)
      by_cases hlt : k < 7
      · have hk7 : (k : Int) < 7 := by omega
        obtain ⟨x, hx⟩ : ∃ x, L[k]? = some x := ⟨_, List.getElem?_eq_getElem (by omega)⟩
        have c1 := fun (g : Int → SV) f => tab1 (g := g) (f := f) hlt
        have hax := atL_of hx
        have hput := row_put (f := fun i => if i < k then atL L i + 1 else 0) (f' := fun i => if i < k + 1 then atL L i + 1 else 0) hlt (v := x + 1) fun b hb => by
          by_cases h1 : b = k
          · subst h1; simp [hax]
          · by_cases h2 : b < k
            · simp [h1, h2, show b < k + 1 by omega]
            · simp [h1, h2, show ¬ b < k + 1 by omega]
        have w4 : IntKind.i64.wrap (x + 1) = x + 1 := by
          have := fromK_mem hf hx
          exact wrap64_in (by omega)
        have wk1 : IntKind.i64.wrap 1 = 1 := by decide
        rcases k with _ | j
        · repeat (first | (with_reducible first | refine AWi.seqK fun _ => ?_ | refine AWi.blockK fun _ => ?_ | refine KI.go ?_) | ((first | refine AWi.region tabOk ?_ | refine AWi.condK fun _ _ => ?_ | refine AWi.draws tabOk rfl (by kernel_rfl) (by kernel_rfl) ?_); simp [-getElem?_pos, z0, z1, z2, s0, s2, s4, s16, s17, s18, mn, mr, hk7, hx, h7, c1, w4, wk1]) | ((first | refine AWi.ret ?_ | refine AWi.skip ?_ | refine AWi.exit ?_); try simp only [thenP]) | (with_reducible refine BB.go ?_; simp only [blockP, thenP, reduceIte]))
          refine LI.go ⟨1, by omega⟩ ⟨by omega, by simp [s0], by simp [s2], by simp [s4], by simp [s16], by simp [s17], by simp [iD], by simp [mn], ?_, fun j hj => by simp [show ¬ j = n + 1 + 1 by omega, low j hj], rfl⟩ (by simp)
          simp
          exact hput
        · obtain ⟨y, hy⟩ : ∃ y, L[j]? = some y := ⟨_, List.getElem?_eq_getElem (by omega)⟩
          have hay := atL_of hy
          have w2 : IntKind.i64.wrap (j : Int) = (j : Int) := wrap64_in (by omega)
          have w3 : IntKind.i64.wrap ((j : Int) + 1 + 1) = (j : Int) + 1 + 1 := wrap64_in (by omega)
          have hk10 : 0 ≤ (j : Int) + 1 := by omega
          have hk8 : (j : Int) + 1 < 7 := by omega
          have hk9 : j + 1 + 1 ≤ 7 := by omega
          have hd2 := descTo_succ L (j + 1)
          rw [hd, Nat.add_sub_cancel, hax, hay] at hd2
          by_cases hxy : y < x
          · have hB : rowOfB L = false := by
              cases h : rowOfB L with
              | false => rfl
              | true =>
                simp only [rowOfB, Bool.and_eq_true] at h
                have h2 := key (j + 2) (by omega) h.2
                rw [hd2] at h2
                simp at h2
                omega
            have hR : rowOfR L = fun _ => 0 := by rw [rowOfR, hB]; rfl
            repeat (first | (with_reducible first | refine AWi.seqK fun _ => ?_ | refine AWi.blockK fun _ => ?_ | refine KI.go ?_) | ((first | refine AWi.region tabOk ?_ | refine AWi.condK fun _ _ => ?_ | refine AWi.draws tabOk rfl (by kernel_rfl) (by kernel_rfl) ?_); simp [-getElem?_pos, z0, z1, z2, s0, s2, s4, s16, s17, s18, mn, mr, hk7, hx, h7, c1, hy, w2, w3, w4, hk8, hk9, hk10, hxy]) | ((first | refine AWi.ret ?_ | refine AWi.skip ?_ | refine AWi.exit ?_); try simp only [thenP]) | (with_reducible refine BB.go ?_; simp only [blockP, thenP, reduceIte]))
            refine RI.ret (xs := [.agg (rowS fun _ => 0), .d (bD false)]) (by simp [Try.results76, resSlots, resSlot, bD, s2]; rfl) ?_
            exact ⟨fun j hj => by simp [show ¬ j = n by omega, low j hj], by rw [hB, hR]; rfl⟩
          · repeat (first | (with_reducible first | refine AWi.seqK fun _ => ?_ | refine AWi.blockK fun _ => ?_ | refine KI.go ?_) | ((first | refine AWi.region tabOk ?_ | refine AWi.condK fun _ _ => ?_ | refine AWi.draws tabOk rfl (by kernel_rfl) (by kernel_rfl) ?_); simp [-getElem?_pos, z0, z1, z2, s0, s2, s4, s16, s17, s18, mn, mr, hk7, hx, h7, c1, hy, w2, w3, w4, hk8, hk9, hk10, hxy]) | ((first | refine AWi.ret ?_ | refine AWi.skip ?_ | refine AWi.exit ?_); try simp only [thenP]) | (with_reducible refine BB.go ?_; simp only [blockP, thenP, reduceIte]))
            refine LI.go ⟨j + 1 + 1, by omega⟩ ⟨by omega, by simp [s0], by simp [s2], by simp [s4], by simp [s16], by simp [s17], by simp [iD], by simp [mn], ?_, fun j hj => by simp [show ¬ j = n + 1 + 1 by omega, low j hj], ?_⟩ (by simp; omega)
            · simp
              exact hput
            · rw [hd2]
              simp
              omega
      · obtain rfl : k = 7 := by omega
        have hB : rowOfB L = true := by simp [rowOfB, hf, h7, hd]
        have hR : rowOfR L = fun i => atL L i + 1 := by rw [rowOfR, hB]; rfl
        have hend : (rowS fun i => if i < 7 then atL L i + 1 else 0) = rowS fun i => atL L i + 1 := by
          simp only [rowS]
          rw [tab_ext fun i hi => if_pos hi]
        rw [hend] at mr
        repeat (first | (with_reducible first | refine AWi.seqK fun _ => ?_ | refine AWi.blockK fun _ => ?_ | refine KI.go ?_) | ((first | refine AWi.region tabOk ?_ | refine AWi.condK fun _ _ => ?_ | refine AWi.draws tabOk rfl (by kernel_rfl) (by kernel_rfl) ?_); simp [-getElem?_pos, z0, z1, z2, s0, s2, s4, s16, s17, s18, mn, mr]) | ((first | refine AWi.ret ?_ | refine AWi.skip ?_ | refine AWi.exit ?_); try simp only [thenP]) | (with_reducible refine BB.go ?_; simp only [blockP, thenP, reduceIte]))
        refine RI.ret (xs := [.agg (rowS fun i => atL L i + 1), .d (bD true)]) (by simp [Try.results76, resSlots, resSlot, bD, s2]) ?_
        exact ⟨fun j hj => by simp [show ¬ j = n by omega, low j hj], by rw [hB, hR]; rfl⟩
  · have hB : rowOfB L = false := by simp [rowOfB, h7]
    have hR : rowOfR L = fun _ => 0 := by rw [rowOfR, hB]; rfl
    have h7i : ¬ (L.length : Int) = 7 := by omega
    refine cwpK tabOk Try.func76 rfl rfl (show 1 ≤ _ by decide) rfl fun _ => ?_; simp only [Try.ntmps76]
    repeat (first | (with_reducible first | refine AWi.seqK fun _ => ?_ | refine AWi.blockK fun _ => ?_ | refine KI.go ?_) | ((first | refine AWi.region tabOk ?_ | refine AWi.condK fun _ _ => ?_ | refine AWi.draws tabOk rfl (by kernel_rfl) (by kernel_rfl) ?_); simp [-getElem?_pos, z0, z1, z2, h7i]) | ((first | refine AWi.ret ?_ | refine AWi.skip ?_ | refine AWi.exit ?_); try simp only [thenP]) | (with_reducible refine BB.go ?_; simp only [blockP, thenP, reduceIte]))
    refine RI.ret (xs := [.agg (rowS fun _ => 0), .d (bD false)]) (by simp [Try.results76, resSlots, resSlot, bD]; rfl) ?_
    refine ⟨fun j hj => ?_, by rw [hB, hR]; rfl⟩
    simp [show ¬ j = n by omega, show ¬ j = n + 1 + 1 by omega]
theorem rowOf_c (L : List Int) (hl : L.length ≤ 1000000) : ACall Try.prog 76 [intL L] (.tup [rowD (rowOfR L), bD (rowOfB L)]) :=
  ACall.ofR (RCall.of3 (n0 := 0) fun n _ => (rowOf_x L hl n _).mono fun _ _ _ h => ⟨h.2, h.1⟩)
end Go.Proofs.Ytgiomfamlbmpcaa.Eng

namespace Go.Proofs.Ytgiomfamlbmpcaa.Eng
open Go.RowKit
def proveB (l : List HS) (e : HE) : (Nat → Int) → List (Nat → Int) → Bool
  | _, [] => true
  | f, r :: rs => if inR f r = false ∨ hasE e r = true then false else proveB l e (leadR l r) rs
set_option maxRecDepth 100000 in
set_option maxHeartbeats 8000000 in
theorem prove_w (l : List HS) (hl : l.all okS = true) (hn6 : l.length ≤ 6) (g : HE) (gg : GoodE g) (e : HE) (ge : GoodE e) (rs : List (Nat → Int)) (hrs : ∀ r ∈ rs, rowOk r) (hlen : rs.length ≤ 1000000) (kg n id : Nat) (m : Mem) (hk : kg < n) (hg : GoalAt g kg m) (hid : id < n) {z : Bool} (hm : m id = some (.row 83 7 (rowsD rs) z)) :
    CWp Try.prog 62 [.agg [.d (boxD l)], .agg [.d (iD e.depth), .d (iD e.burr)], reachF kg, .own id rs.length 7] n m fun y _ m' => (∀ j, j < n → m' j = m j) ∧ y = .d (bD (proveB l e (firstR g) rs)) := by
  have hkg : kg < n + 1 + 1 + 1 + 1 := by omega
  refine cwpK tabOk Try.func62 rfl rfl (show 4 ≤ _ by decide) rfl fun _ => ?_; simp only [Try.ntmps62]
  repeat (first | (with_reducible first | refine AWi.seqK fun _ => ?_ | refine AWi.blockK fun _ => ?_ | refine KI.go ?_) | ((first | refine AWi.region tabOk ?_ | refine AWi.condK fun _ _ => ?_); simp [-getElem?_pos, z0, z1, z2, z0]) | ((first | refine AWi.ret ?_ | refine AWi.skip ?_ | refine AWi.exit ?_); try simp only [thenP]) | (with_reducible refine BB.go ?_; simp only [blockP, thenP, reduceIte]))
  refine ExecI.callC (firstRow_w g gg kg _ _ hkg (by obtain ⟨zg, hz⟩ := hg; exact ⟨zg, by simp [show ¬ kg = n by omega, show ¬ kg = n + 1 by omega, hz]⟩)) rfl (by simp [calleeS, evList]) ?_
  rintro y n1 m1 ⟨hn1, hm1, rfl⟩
  simp [-getElem?_pos, z0, z1, z2]
  repeat (first | (with_reducible first | refine AWi.seqK fun _ => ?_ | refine AWi.blockK fun _ => ?_ | refine KI.go ?_) | ((first | refine AWi.region tabOk ?_ | refine AWi.condK fun _ _ => ?_); simp [-getElem?_pos, z0, z1, z2, z0]) | ((first | refine AWi.ret ?_ | refine AWi.skip ?_ | refine AWi.exit ?_); try simp only [thenP]) | (with_reducible refine BB.go ?_; simp only [blockP, thenP, reduceIte]))
  have hrl : (rowsD rs).length = rs.length := by simp [rowsD]
  have m1n : m1 n = some (.box 65 [.d (boxD l)] false) := (hm1 n (by omega)).trans (by simp)
  have m1e : m1 (n + 1) = some (.box 24 [.d (iD e.depth), .d (iD e.burr)] false) := (hm1 (n + 1) (by omega)).trans (by simp)
  have m1l : ∀ j, j < n → m1 j = m j := fun j hj => (hm1 j (by omega)).trans (by simp [show ¬ j = n by omega, show ¬ j = n + 1 by omega])
  refine AWi.loopK (ι := Nat × (Nat → Int)) (fun p n2 s => n1 + 1 ≤ n2 ∧ s.slots 4 = .ptr n 0 0 ∧ s.slots 5 = .ptr (n + 1) 0 0 ∧ s.slots 9 = .ptr n1 0 0 ∧ s.slots 14 = .own id rs.length 7 ∧ s.slots 15 = .d (iD rs.length) ∧ s.slots 16 = .d (iD p.1) ∧ s.mem n = some (.box 65 [.d (boxD l)] false) ∧ s.mem (n + 1) = some (.box 24 [.d (iD e.depth), .d (iD e.burr)] false) ∧ s.mem n1 = some (.box 83 (rowS p.2) false) ∧ (∀ j, j < n → s.mem j = m j) ∧ p.1 ≤ rs.length ∧ proveB l e p.2 (rs.drop p.1) = proveB l e (firstR g) rs) (fun p => rs.length - p.1) (0, firstR g) ?_ ?_
  · exact ⟨by omega, by simp, by simp, by simp, by simp, by simp [iD, hrl], by simp [iD], by simp [show ¬ n = n1 by omega, m1n], by simp [show ¬ n + 1 = n1 by omega, m1e], by simp, fun j hj => by simp [show ¬ j = n1 by omega, m1l j hj], by simp, by simp⟩
  rintro ⟨k, f⟩ n2 s ⟨hle, s4, s5, s9, s14, s15, s16, mn, me, mf, low, hkl, hpr⟩ kk
  simp only at s16 mf hkl hpr
  have mi := (low id hid).trans hm
  have w1 : IntKind.i64.wrap ((k : Int) + 1) = (k : Int) + 1 := wrap64_in (by omega)
  by_cases hlt : k < rs.length
  · have hki : (k : Int) < (rs.length : Int) := by omega
    obtain ⟨q, hq⟩ : ∃ q, rs[k]? = some q := ⟨_, List.getElem?_eq_getElem hlt⟩
    have hrow : (rowsD rs)[k]? = some ((tab q).map iD) := by rw [rowsD, List.getElem?_map, hq]; rfl
    have hqo := hrs q (List.mem_of_getElem? hq)
    have hdrop : rs.drop k = q :: rs.drop (k + 1) := by
      rw [List.drop_eq_getElem_cons hlt]
      congr 1
      exact (List.getElem?_eq_some_iff.1 hq).2
    rw [hdrop] at hpr
    have ci := isIn_c f q
    have ch := has_c q e ge
    have e1 : ¬ n1 = n2 + 3 := by omega
    have e2 : ¬ n = n2 + 3 := by omega
    repeat (first | (with_reducible first | refine AWi.seqK fun _ => ?_ | refine AWi.blockK fun _ => ?_ | refine KI.go ?_) | ((first | refine AWi.region tabOk ?_ | refine AWi.condK fun _ _ => ?_); simp [-getElem?_pos, z0, z1, z2, s4, s5, s9, s14, s15, s16, mn, me, mf, mi, hki, hrow, hrl, e1, e2]) | ((first | refine AWi.ret ?_ | refine AWi.skip ?_ | refine AWi.exit ?_); try simp only [thenP]) | (with_reducible refine BB.go ?_; simp only [blockP, thenP, reduceIte]))
    have e3 : ¬ n + 1 = n2 + 3 := by omega
    have e4 : ¬ n = n2 + 2 := by omega
    have e5 : ¬ n + 1 = n2 + 1 + 1 + 1 := by omega
    have e6 : ¬ n1 = n2 + 1 + 1 + 1 := by omega
    have e7 : ¬ n = n2 + 1 + 1 + 1 := by omega
    rcases hb : inR f q
    · rw [hb] at ci
      have hp0 : proveB l e (firstR g) rs = false := by rw [← hpr, proveB, if_pos (.inl hb)]
      refine ExecI.call [] ci ?_ rfl ?_ ?_; (focus simp [-getElem?_pos, mf, me, mn, s4, s5, s9, e1, e2, e3, e4, e5, e6, e7]); (focus simp [-getElem?_pos, z0, z1, z2, mf, me, mn, s4, s5, s9, e1, e2, e3, e4, e5, e6, e7]); simp [-getElem?_pos, z0, z1, z2, mf, me, mn, s4, s5, s9, e1, e2, e3, e4, e5, e6, e7]
      repeat (first | (with_reducible first | refine AWi.seqK fun _ => ?_ | refine AWi.blockK fun _ => ?_ | refine KI.go ?_) | ((first | refine AWi.region tabOk ?_ | refine AWi.condK fun _ _ => ?_); simp [-getElem?_pos, z0, z1, z2, s4, s5, s9, mn, me, mf, e1, e2, e3, e4]) | ((first | refine AWi.ret ?_ | refine AWi.skip ?_ | refine AWi.exit ?_); try simp only [thenP]) | (with_reducible refine BB.go ?_; simp only [blockP, thenP, reduceIte]))
      exact RI.ret rfl ⟨fun j hj => by simp [show ¬ j = n2 + 1 + 1 + 1 by omega, low j hj], by rw [hp0]; rfl⟩
    · rw [hb] at ci
      have hd1 : decide (e.depth < q e.burr.toNat) = hasE e q := rfl
      rw [hd1] at ch
      rcases hc : hasE e q
      · rw [hc] at ch
        refine ExecI.call [] ci ?_ rfl ?_ ?_; (focus simp [-getElem?_pos, mf, me, mn, s4, s5, s9, e1, e2, e3, e4, e5, e6, e7]); (focus simp [-getElem?_pos, z0, z1, z2, mf, me, mn, s4, s5, s9, e1, e2, e3, e4, e5, e6, e7]); simp [-getElem?_pos, z0, z1, z2, mf, me, mn, s4, s5, s9, e1, e2, e3, e4, e5, e6, e7]
        repeat (first | (with_reducible first | refine AWi.seqK fun _ => ?_ | refine AWi.blockK fun _ => ?_ | refine KI.go ?_) | ((first | refine AWi.region tabOk ?_ | refine AWi.condK fun _ _ => ?_); simp [-getElem?_pos, z0, z1, z2, s4, s5, s9, mn, me, mf, e1, e2, e3, e4]) | ((first | refine AWi.ret ?_ | refine AWi.skip ?_ | refine AWi.exit ?_); try simp only [thenP]) | (with_reducible refine BB.go ?_; simp only [blockP, thenP, reduceIte]))
        refine ExecI.call [] ch ?_ rfl ?_ ?_; (focus simp [-getElem?_pos, mf, me, e1, e2, e3]); (focus simp [-getElem?_pos, z0, z1, z2, mf, me, e1, e2, e3]); simp [-getElem?_pos, z0, z1, z2, mf, me, e1, e2, e3]
        repeat (first | (with_reducible first | refine AWi.seqK fun _ => ?_ | refine AWi.blockK fun _ => ?_ | refine KI.go ?_) | ((first | refine AWi.region tabOk ?_ | refine AWi.condK fun _ _ => ?_); simp [-getElem?_pos, z0, z1, z2, s4, s5, s9, mn, me, mf, e1, e2, e3, e4]) | ((first | refine AWi.ret ?_ | refine AWi.skip ?_ | refine AWi.exit ?_); try simp only [thenP]) | (with_reducible refine BB.go ?_; simp only [blockP, thenP, reduceIte]))
        refine ExecI.callC (lead_w l hl hn6 q f hqo n1 _ _ (by omega) (by simp [e6, mf])) rfl (by simp [calleeS, evList, s9]) ?_
        rintro y n3 m3 ⟨hn3, hm3, hl3⟩
        have hk3 : ∀ j, j < n2 → j ≠ n1 → m3 j = s.mem j := fun j hj hne => (hm3 j (by omega) hne).trans (by simp [show ¬ j = n2 + 1 + 1 + 1 by omega])
        simp [-getElem?_pos, z0, z1, z2, s16]
        repeat (first | (with_reducible first | refine AWi.seqK fun _ => ?_ | refine AWi.blockK fun _ => ?_ | refine KI.go ?_) | ((first | refine AWi.region tabOk ?_ | refine AWi.condK fun _ _ => ?_); simp [-getElem?_pos, z0, z1, z2, s4, s5, s9, s16, w1]) | ((first | refine AWi.ret ?_ | refine AWi.skip ?_ | refine AWi.exit ?_); try simp only [thenP]) | (with_reducible refine BB.go ?_; simp only [blockP, thenP, reduceIte]))
        refine LI.go (k + 1, leadR l q) ⟨by omega, by simp [s4], by simp [s5], by simp [s9], by simp [s14], by simp [s15], by simp [iD], (hk3 n (by omega) (by omega)).trans mn, (hk3 (n + 1) (by omega) (by omega)).trans me, hl3, fun j hj => (hk3 j (by omega) (by omega)).trans (low j hj), hlt, ?_⟩ (by simp; omega)
        rw [← hpr, proveB, if_neg (by rw [hb, hc]; simp)]
      · rw [hc] at ch
        have hp0 : proveB l e (firstR g) rs = false := by rw [← hpr, proveB, if_pos (.inr hc)]
        refine ExecI.call [] ci ?_ rfl ?_ ?_; (focus simp [-getElem?_pos, mf, me, mn, s4, s5, s9, e1, e2, e3, e4, e5, e6, e7]); (focus simp [-getElem?_pos, z0, z1, z2, mf, me, mn, s4, s5, s9, e1, e2, e3, e4, e5, e6, e7]); simp [-getElem?_pos, z0, z1, z2, mf, me, mn, s4, s5, s9, e1, e2, e3, e4, e5, e6, e7]
        repeat (first | (with_reducible first | refine AWi.seqK fun _ => ?_ | refine AWi.blockK fun _ => ?_ | refine KI.go ?_) | ((first | refine AWi.region tabOk ?_ | refine AWi.condK fun _ _ => ?_); simp [-getElem?_pos, z0, z1, z2, s4, s5, s9, mn, me, mf, e1, e2, e3, e4]) | ((first | refine AWi.ret ?_ | refine AWi.skip ?_ | refine AWi.exit ?_); try simp only [thenP]) | (with_reducible refine BB.go ?_; simp only [blockP, thenP, reduceIte]))
        refine ExecI.call [] ch ?_ rfl ?_ ?_; (focus simp [-getElem?_pos, mf, me, e1, e2, e3]); (focus simp [-getElem?_pos, z0, z1, z2, mf, me, e1, e2, e3]); simp [-getElem?_pos, z0, z1, z2, mf, me, e1, e2, e3]
        repeat (first | (with_reducible first | refine AWi.seqK fun _ => ?_ | refine AWi.blockK fun _ => ?_ | refine KI.go ?_) | ((first | refine AWi.region tabOk ?_ | refine AWi.condK fun _ _ => ?_); simp [-getElem?_pos, z0, z1, z2, s4, s5, s9, mn, me, mf, e1, e2, e3, e4]) | ((first | refine AWi.ret ?_ | refine AWi.skip ?_ | refine AWi.exit ?_); try simp only [thenP]) | (with_reducible refine BB.go ?_; simp only [blockP, thenP, reduceIte]))
        exact RI.ret rfl ⟨fun j hj => by simp [show ¬ j = n2 + 1 + 1 + 1 by omega, low j hj], by rw [hp0]; rfl⟩
  · obtain rfl : k = rs.length := by omega
    rw [List.drop_length] at hpr
    repeat (first | (with_reducible first | refine AWi.seqK fun _ => ?_ | refine AWi.blockK fun _ => ?_ | refine KI.go ?_) | ((first | refine AWi.region tabOk ?_ | refine AWi.condK fun _ _ => ?_); simp [-getElem?_pos, z0, z1, z2, s4, s5, s9, s14, s15, s16, mn, me, mf]) | ((first | refine AWi.ret ?_ | refine AWi.skip ?_ | refine AWi.exit ?_); try simp only [thenP]) | (with_reducible refine BB.go ?_; simp only [blockP, thenP, reduceIte]))
    exact RI.ret rfl ⟨low, by rw [← hpr]; rfl⟩
end Go.Proofs.Ytgiomfamlbmpcaa.Eng

namespace Go.Proofs.Ytgiomfamlbmpcaa.Eng
open Go.RowKit
def listsD (Ls : List (List Int)) : List (List Dat) := Ls.map fun L => [intL L]
def readK (Ls : List (List Int)) (k : Nat) : List (List Dat) := (List.range Ls.length).map fun i => (tab (if i < k then rowOfR (Ls.getD i []) else fun _ => 0)).map iD
theorem readK_len (Ls : List (List Int)) (k : Nat) : (readK Ls k).length = Ls.length := by simp [readK]
theorem readK_set {Ls : List (List Int)} {k : Nat} {L : List Int} (h : Ls[k]? = some L) : (readK Ls k).set k ((tab (rowOfR L)).map iD) = readK Ls (k + 1) := by
  have hk := (List.getElem?_eq_some_iff.1 h).1
  apply List.ext_getElem?
  intro i
  rw [List.getElem?_set]
  by_cases hi : i < Ls.length
  · by_cases e : k = i
    · subst e
      have h2 := (List.getElem?_eq_some_iff.1 h).2
      simp [readK, hi, List.getD_eq_getElem?_getD, h2]
    · rw [if_neg e]
      simp only [readK, List.getElem?_map, List.getElem?_range hi, Option.map_some]
      by_cases h2 : i < k
      · simp [h2, show i < k + 1 by omega]
      · simp [h2, show ¬ i < k + 1 by omega]
  · rw [if_neg (by omega)]
    simp [readK, hi]
theorem readK_end (Ls : List (List Int)) : readK Ls Ls.length = rowsD (Ls.map rowOfR) := by
  apply List.ext_getElem?
  intro i
  by_cases hi : i < Ls.length
  · simp [readK, rowsD, hi, List.getD_eq_getElem?_getD]
  · simp [readK, rowsD, hi]
set_option maxRecDepth 100000 in
set_option maxHeartbeats 8000000 in
theorem rowsOf_w (Ls : List (List Int)) (hL : ∀ L ∈ Ls, L.length ≤ 1000000) (hl : Ls.length ≤ 800) (n : Nat) (m : Mem) :
    CWp Try.prog 61 [.d (.list (listsD Ls))] n m fun y n' m' => (∀ j, j < n → m' j = m j) ∧ if Ls.all rowOfB then ∃ id, n ≤ id ∧ id < n' ∧ y = .tup [.own id Ls.length 7, .d (bD true)] ∧ m' id = some (.row 83 7 (rowsD (Ls.map rowOfR)) false) else y = .tup [.nilS, .d (bD false)] := by
  have b1 : 56 * (Ls.length : Int) ≤ 140737488355328 := by omega
  have b2 : (Ls.length : Int) ≤ 9223372036854775807 := by omega
  have hll : (listsD Ls).length = Ls.length := by simp [listsD]
  refine cwpK tabOk Try.func61 rfl rfl (show 1 ≤ _ by decide) rfl fun _ => ?_; simp only [Try.ntmps61]
  repeat (first | (with_reducible first | refine AWi.seqK fun _ => ?_ | refine AWi.blockK fun _ => ?_ | refine KI.go ?_) | ((first | refine AWi.region tabOk ?_ | refine AWi.condK fun _ _ => ?_); simp [-getElem?_pos, z0, z1, z2, b1, b2, hll]) | ((first | refine AWi.ret ?_ | refine AWi.skip ?_ | refine AWi.exit ?_); try simp only [thenP]) | (with_reducible refine BB.go ?_; simp only [blockP, thenP, reduceIte]))
  refine AWi.loopK (fun (k : Nat) n1 s => n + 1 + 1 + 1 + 1 + 1 ≤ n1 ∧ s.slots 0 = .d (.list (listsD Ls)) ∧ s.slots 4 = .own (n + 1 + 1 + 1 + 1) Ls.length 7 ∧ s.slots 12 = .d (.list (listsD Ls)) ∧ s.slots 13 = .d (iD Ls.length) ∧ s.slots 14 = .d (iD k) ∧ s.mem (n + 1 + 1 + 1 + 1) = some (.row 83 7 (readK Ls k) false) ∧ (∀ j, j < n → s.mem j = m j) ∧ k ≤ Ls.length ∧ (Ls.take k).all rowOfB = true) (fun k => Ls.length - k) 0 ?_ ?_
  · refine ⟨by omega, by simp, by simp, by simp, by simp [iD], by simp [iD], ?_, fun j hj => by simp [show ¬ j = n + 1 + 1 + 1 + 1 by omega], by omega, by simp⟩
    simp
    have : readK Ls 0 = List.replicate Ls.length ((tab fun _ => 0).map iD) := by
      apply List.ext_getElem?
      intro i
      by_cases hi : i < Ls.length
      · simp [readK, hi]
      · simp [readK, hi]
    rw [this]; rfl
  rintro k n1 s ⟨hle, s0, s4, s12, s13, s14, mr, low, hkl, hall⟩ kk
  have w1 : IntKind.i64.wrap ((k : Int) + 1) = (k : Int) + 1 := wrap64_in (by omega)
  by_cases hlt : k < Ls.length
  · have hki : (k : Int) < (Ls.length : Int) := by omega
    obtain ⟨L, hq⟩ : ∃ L, Ls[k]? = some L := ⟨_, List.getElem?_eq_getElem hlt⟩
    have hrow : (listsD Ls)[k]? = some [intL L] := by rw [listsD, List.getElem?_map, hq]; rfl
    have hrk : (readK Ls k).length = Ls.length := readK_len Ls k
    have cr := rowOf_c L (hL L (List.mem_of_getElem? hq))
    have htk : (Ls.take (k + 1)).all rowOfB = rowOfB L := by rw [allK_take hq, hall, Bool.true_and]
    have hset := readK_set hq
    have hz : (readK Ls k)[k]? = some ((tab fun _ => 0).map iD) := by simp [readK, hlt]
    repeat (first | (with_reducible first | refine AWi.seqK fun _ => ?_ | refine AWi.blockK fun _ => ?_ | refine KI.go ?_) | ((first | refine AWi.region tabOk ?_ | refine AWi.condK fun _ _ => ?_); simp [-getElem?_pos, z0, z1, z2, s0, s4, s12, s13, s14, mr, hki, hrow, hll]) | ((first | refine AWi.ret ?_ | refine AWi.skip ?_ | refine AWi.exit ?_); try simp only [thenP]) | (with_reducible refine BB.go ?_; simp only [blockP, thenP, reduceIte]))
    rcases hB : rowOfB L <;> rw [hB] at cr htk
    · have hno : Ls.all rowOfB = false := allK_not hq hB
      refine ExecI.call [] cr ?_ rfl ?_ ?_; (focus simp [-getElem?_pos, s0, s4]); (focus simp [-getElem?_pos, z0, z1, z2, s0, s4]); simp [-getElem?_pos, z0, z1, z2, s0, s4]
      repeat (first | (with_reducible first | refine AWi.seqK fun _ => ?_ | refine AWi.blockK fun _ => ?_ | refine KI.go ?_) | ((first | refine AWi.region tabOk ?_ | refine AWi.condK fun _ _ => ?_); simp [-getElem?_pos, z0, z1, z2, s0, s4]) | ((first | refine AWi.ret ?_ | refine AWi.skip ?_ | refine AWi.exit ?_); try simp only [thenP]) | (with_reducible refine BB.go ?_; simp only [blockP, thenP, reduceIte]))
      exact RI.ret rfl ⟨fun j hj => by simp [show ¬ j = n1 + 1 + 1 + 1 + 1 + 1 + 1 + 1 + 1 + 1 + 1 + 1 by omega, low j hj], by rw [if_neg (by rw [hno]; simp)]; rfl⟩
    · refine ExecI.call [] cr ?_ rfl ?_ ?_; (focus simp [-getElem?_pos, s0, s4]); (focus simp [-getElem?_pos, z0, z1, z2, s0, s4]); simp [-getElem?_pos, z0, z1, z2, s0, s4]
      repeat (first | (with_reducible first | refine AWi.seqK fun _ => ?_ | refine AWi.blockK fun _ => ?_ | refine KI.go ?_) | ((first | refine AWi.region tabOk ?_ | refine AWi.condK fun _ _ => ?_); simp [-getElem?_pos, z0, z1, z2, s0, s4, s14, mr, hrk, hki, w1, hset, hz, show ¬ n = n1 + 7 by omega, show ¬ n + 1 + 1 + 1 + 1 = n1 by omega]) | ((first | refine AWi.ret ?_ | refine AWi.skip ?_ | refine AWi.exit ?_); try simp only [thenP]) | (with_reducible refine BB.go ?_; simp only [blockP, thenP, reduceIte]))
      refine LI.go (k + 1) ⟨by omega, by simp [s0], by simp [s4], by simp [s12], by simp [s13], by simp [iD], by simp, fun j hj => by simp [show ¬ j = n + 1 + 1 + 1 + 1 by omega, show ¬ j = n1 + 1 + 1 + 1 + 1 + 1 + 1 + 1 + 1 + 1 + 1 + 1 by omega, low j hj], hlt, htk⟩ (by omega)
  · obtain rfl : k = Ls.length := by omega
    rw [List.take_length] at hall
    rw [readK_end] at mr
    repeat (first | (with_reducible first | refine AWi.seqK fun _ => ?_ | refine AWi.blockK fun _ => ?_ | refine KI.go ?_) | ((first | refine AWi.region tabOk ?_ | refine AWi.condK fun _ _ => ?_); simp [-getElem?_pos, z0, z1, z2, s0, s4, s12, s13, s14, mr]) | ((first | refine AWi.ret ?_ | refine AWi.skip ?_ | refine AWi.exit ?_); try simp only [thenP]) | (with_reducible refine BB.go ?_; simp only [blockP, thenP, reduceIte]))
    exact RI.ret rfl ⟨low, by rw [if_pos hall]; exact ⟨n + 1 + 1 + 1 + 1, by omega, by omega, by simp [retV, s4], mr⟩⟩
end Go.Proofs.Ytgiomfamlbmpcaa.Eng

namespace Go.Proofs.Ytgiomfamlbmpcaa.Eng
open Go.RowKit
def chkRows (l : List HS) (e g : HE) (Ls : List (List Int)) : Int := if chkErr l [e, g] = 0 then (if 800 < Ls.length then 6 else if Ls.all rowOfB then (if proveB l e (firstR g) (Ls.map rowOfR) then 0 else 14) else 3) else chkErr l [e, g]
theorem rowOfR_ok (L : List Int) : rowOk (rowOfR L) := fun i hi => by
  unfold rowOfR
  split
  · rename_i h
    simp only [rowOfB, Bool.and_eq_true, decide_eq_true_eq] at h
    have hx : L[i]? = some L[i] := List.getElem?_eq_getElem (by omega)
    have := fromK_mem h.1.2 hx
    show 0 ≤ atL L i + 1 ∧ atL L i + 1 ≤ 101
    rw [atL_of hx]
    omega
  · show (0 : Int) ≤ 0 ∧ (0 : Int) ≤ 101
    omega
set_option maxRecDepth 100000 in
set_option maxHeartbeats 8000000 in
theorem checkRows_x (l : List HS) (e g : HE) (Ls : List (List Int)) (hL : ∀ L ∈ Ls, L.length ≤ 1000000) (n : Nat) (m : Mem) :
    CWp Try.prog 28 [.d (boxD l), .d (edgD e), .d (edgD g), .d (.list (listsD Ls))] n m fun y _ m' => (∀ j, j < n → m' j = m j) ∧ y = .d (iD (chkRows l e g Ls)) := by
  have cb : ACall Try.prog 49 [boxD l, .list [[iD e.depth, iD e.burr], [iD g.depth, iD g.burr]]] (.tup [.agg [boxD (chkB l [e, g])], iD (chkErr l [e, g])]) := check_c l [e, g] (by simp)
  have hll : (listsD Ls).length = Ls.length := by simp [listsD]
  by_cases h0 : chkErr l [e, g] = 0
  · obtain ⟨hb, hes⟩ := chkOk h0
    have ge := goodE (e := e) (by simp at hes; exact hes.1)
    have gg := goodE (e := g) (by simp at hes; exact hes.2)
    have hcb : chkB l [e, g] = l := if_pos h0
    rw [h0, hcb] at cb
    have o1 : ¬ n = n + 1 := by omega
    have o2 : ¬ n + 1 = n := by omega
    have o3 : ¬ n = n + 1 + 1 + 1 + 1 + 1 + 1 := by omega
    refine cwpK tabOk Try.func28 rfl rfl (show 4 ≤ _ by decide) rfl fun _ => ?_; simp only [Try.ntmps28]
    repeat (first | (with_reducible first | refine AWi.seqK fun _ => ?_ | refine AWi.blockK fun _ => ?_ | refine KI.go ?_) | ((first | refine AWi.region tabOk ?_ | refine AWi.condK fun _ _ => ?_); simp [-getElem?_pos, z0, z1, z2, z0]) | ((first | refine AWi.ret ?_ | refine AWi.skip ?_ | refine AWi.exit ?_); try simp only [thenP]) | (with_reducible refine BB.go ?_; simp only [blockP, thenP, reduceIte]))
    refine ExecI.call [n + 1 + 1 + 1 + 1 + 1 + 1] cb ?_ rfl ?_ ?_; (focus simp [-getElem?_pos, ]); (focus simp [-getElem?_pos, z0, z1, z2, ]); simp [-getElem?_pos, z0, z1, z2, ]
    by_cases h8 : 800 < Ls.length
    · have hE : chkRows l e g Ls = 6 := by rw [chkRows, if_pos h0, if_pos h8]
      have h8i : (800 : Int) < (Ls.length : Int) := by omega
      repeat (first | (with_reducible first | refine AWi.seqK fun _ => ?_ | refine AWi.blockK fun _ => ?_ | refine KI.go ?_) | ((first | refine AWi.region tabOk ?_ | refine AWi.condK fun _ _ => ?_); simp [-getElem?_pos, z0, z1, z2, hll, h8i]) | ((first | refine AWi.ret ?_ | refine AWi.skip ?_ | refine AWi.exit ?_); try simp only [thenP]) | (with_reducible refine BB.go ?_; simp only [blockP, thenP, reduceIte]))
      exact RI.ret rfl ⟨fun j hj => by (try dsimp only); repeat (first | rw [setMem_lt (by omega)] | rw [putN_lt (by omega)]), by rw [hE]; rfl⟩
    · have h8i : ¬ (800 : Int) < (Ls.length : Int) := by omega
      repeat (first | (with_reducible first | refine AWi.seqK fun _ => ?_ | refine AWi.blockK fun _ => ?_ | refine KI.go ?_) | ((first | refine AWi.region tabOk ?_ | refine AWi.condK fun _ _ => ?_); simp [-getElem?_pos, z0, z1, z2, hll, h8i]) | ((first | refine AWi.ret ?_ | refine AWi.skip ?_ | refine AWi.exit ?_); try simp only [thenP]) | (with_reducible refine BB.go ?_; simp only [blockP, thenP, reduceIte]))
      refine ExecI.callC (rowsOf_w Ls hL (by omega) _ _) rfl (by simp [calleeS, evList]) ?_
      rintro y n1 m1 ⟨hm1, hy⟩
      rcases hB : Ls.all rowOfB
      · rw [hB] at hy
        have hE : chkRows l e g Ls = 3 := by rw [chkRows, if_pos h0, if_neg h8, hB]; rfl
        obtain rfl : y = .tup [.nilS, .d (bD false)] := by simpa using hy
        simp [-getElem?_pos, z0, z1, z2]
        repeat (first | (with_reducible first | refine AWi.seqK fun _ => ?_ | refine AWi.blockK fun _ => ?_ | refine KI.go ?_) | ((first | refine AWi.region tabOk ?_ | refine AWi.condK fun _ _ => ?_); simp [-getElem?_pos, z0, z1, z2, z0]) | ((first | refine AWi.ret ?_ | refine AWi.skip ?_ | refine AWi.exit ?_); try simp only [thenP]) | (with_reducible refine BB.go ?_; simp only [blockP, thenP, reduceIte]))
        exact RI.ret rfl ⟨fun j hj => (hm1 j (by omega)).trans (by (try dsimp only); repeat (first | rw [setMem_lt (by omega)] | rw [putN_lt (by omega)])), by rw [hE]; rfl⟩
      · rw [hB] at hy
        simp only [if_true] at hy
        obtain ⟨id, i1, i2, rfl, i3⟩ := hy
        simp [-getElem?_pos, z0, z1, z2]
        repeat (first | (with_reducible first | refine AWi.seqK fun _ => ?_ | refine AWi.blockK fun _ => ?_ | refine KI.go ?_) | ((first | refine AWi.region tabOk ?_ | refine AWi.condK fun _ _ => ?_); simp [-getElem?_pos, z0, z1, z2, z0]) | ((first | refine AWi.ret ?_ | refine AWi.skip ?_ | refine AWi.exit ?_); try simp only [thenP]) | (with_reducible refine BB.go ?_; simp only [blockP, thenP, reduceIte]))
        have hlow : ∀ j, j < n → m1 j = m j := fun j hj => (hm1 j (by omega)).trans (by (try dsimp only); repeat (first | rw [setMem_lt (by omega)] | rw [putN_lt (by omega)]))
        have me : m1 n = some (.box 24 [.d (iD e.depth), .d (iD e.burr)] false) := (hm1 n (by omega)).trans (by simp [show ¬ n = n + 1 + 1 + 1 + 1 + 1 + 1 by omega])
        have mg : m1 (n + 1) = some (.box 24 [.d (iD g.depth), .d (iD g.burr)] false) := (hm1 (n + 1) (by omega)).trans (by simp)
        have mb : m1 (n + 1 + 1 + 1 + 1 + 1 + 1 + 1 + 1 + 1 + 1 + 1) = some (.box 65 [.d (boxD l)] false) := (hm1 (n + 1 + 1 + 1 + 1 + 1 + 1 + 1 + 1 + 1 + 1 + 1) (by omega)).trans (by simp)
        have q1 : n < n1 + 1 + 1 + 1 + 1 + 1 + 1 + 1 := by omega
        have q2 : n + 1 < n1 + 1 + 1 + 1 + 1 + 1 + 1 + 1 := by omega
        have q3 : n + 1 + 1 + 1 + 1 + 1 + 1 + 1 + 1 + 1 + 1 + 1 < n1 + 1 + 1 + 1 + 1 + 1 + 1 + 1 := by omega
        have hpe : chkRows l e g Ls = if proveB l e (firstR g) (Ls.map rowOfR) then 0 else 14 := by rw [chkRows, if_pos h0, if_neg h8, if_pos hB]
        refine AWi.drawsM mixedH 5 (by kernel_rfl) (by kernel_rfl) (by kernel_rfl) ?_
        simp only [List.take_succ_cons, List.take_zero]
        repeat (with_reducible refine ExecV.auto tabOk ?_; simp [-getElem?_pos, z0, z1, z2, kindV, isPure, me, mg, mb, q1, q2, q3]; try (refine And.intro (OkV_old (by simp; try omega) (by omega) (by simp [AllAcc])) ?_))
        refine ExecV.callP [] (reaches_n g _ _) (by omega) (fun i hi => by cases hi) rfl (by simp [calleeS, evList]) (OkV_old (by simp) (by omega) (by simp [AllAcc])) ?_
        repeat (with_reducible refine ExecV.auto tabOk ?_; simp [-getElem?_pos, z0, z1, z2, kindV, isPure, me, mg, mb, q1, q2, q3]; try (refine And.intro (OkV_old (by simp; try omega) (by omega) (by simp [AllAcc])) ?_))
        have hml : (Ls.map rowOfR).length = Ls.length := by simp
        refine ⟨_, stepI_call (svs := [.agg [.d (boxD l)], .agg [.d (iD e.depth), .d (iD e.burr)], reachF (n1 + 1 + 1 + 1 + 1 + 1 + 1 + 1), .own id (Ls.map rowOfR).length 7]) (by simp [calleeS, evList]) (prove_w l hb.all hb.n2 g gg e ge (Ls.map rowOfR) (fun r hr => by obtain ⟨L, _, rfl⟩ := List.mem_map.1 hr; exact rowOfR_ok L) (by rw [hml]; omega) (n1 + 1 + 1 + 1 + 1 + 1 + 1 + 1) (n1 + 1 + 1 + 1 + 1 + 1 + 1 + 1 + 1 + 1 + 1 + 1) id _ (by omega) ⟨false, by simp⟩ (by omega) (z := false) (by (try dsimp only); repeat (first | rw [setMem_lt (by omega)] | rw [putN_lt (by omega)]); exact i3)), ?_⟩
        rintro n2 s2 ⟨y, m', ⟨hm2, rfl⟩, rfl⟩
        simp only [restO, List.drop_succ_cons, List.drop_zero, List.map_cons, List.map_nil, shiftO]
        repeat (with_reducible refine ExecV.auto tabOk ?_; simp [-getElem?_pos, z0, z1, z2, kindV, isPure, z0]; try (refine And.intro (OkV_old (by simp; try omega) (by omega) (by simp [AllAcc])) ?_))
        unfold ExecV
        simp only [thenP]
        rcases hP : proveB l e (firstR g) (Ls.map rowOfR)
        · repeat (first | (with_reducible first | refine AWi.seqK fun _ => ?_ | refine AWi.blockK fun _ => ?_ | refine KI.go ?_) | ((first | refine AWi.region tabOk ?_ | refine AWi.condK fun _ _ => ?_); simp [-getElem?_pos, z0, z1, z2, z0]) | ((first | refine AWi.ret ?_ | refine AWi.skip ?_ | refine AWi.exit ?_); try simp only [thenP]) | (with_reducible refine BB.go ?_; simp only [blockP, thenP, reduceIte]))
          exact RI.ret rfl ⟨fun j hj => (hm2 j (by omega)).trans (by (try dsimp only); repeat (first | rw [setMem_lt (by omega)] | rw [putN_lt (by omega)]); exact hlow j hj), by rw [hpe, hP]; rfl⟩
        · repeat (first | (with_reducible first | refine AWi.seqK fun _ => ?_ | refine AWi.blockK fun _ => ?_ | refine KI.go ?_) | ((first | refine AWi.region tabOk ?_ | refine AWi.condK fun _ _ => ?_); simp [-getElem?_pos, z0, z1, z2, z0]) | ((first | refine AWi.ret ?_ | refine AWi.skip ?_ | refine AWi.exit ?_); try simp only [thenP]) | (with_reducible refine BB.go ?_; simp only [blockP, thenP, reduceIte]))
          exact RI.ret rfl ⟨fun j hj => (hm2 j (by omega)).trans (by (try dsimp only); repeat (first | rw [setMem_lt (by omega)] | rw [putN_lt (by omega)]); exact hlow j hj), by rw [hpe, hP]; rfl⟩
  · have hE : chkRows l e g Ls = chkErr l [e, g] := if_neg h0
    generalize chkErr l [e, g] = er at *
    generalize chkB l [e, g] = bb at *
    refine cwpK tabOk Try.func28 rfl rfl (show 4 ≤ _ by decide) rfl fun _ => ?_; simp only [Try.ntmps28]
    repeat (first | (with_reducible first | refine AWi.seqK fun _ => ?_ | refine AWi.blockK fun _ => ?_ | refine KI.go ?_) | ((first | refine AWi.region tabOk ?_ | refine AWi.condK fun _ _ => ?_); simp [-getElem?_pos, z0, z1, z2, z0]) | ((first | refine AWi.ret ?_ | refine AWi.skip ?_ | refine AWi.exit ?_); try simp only [thenP]) | (with_reducible refine BB.go ?_; simp only [blockP, thenP, reduceIte]))
    refine ExecI.call [n + 1 + 1 + 1 + 1 + 1 + 1] cb ?_ rfl ?_ ?_; (focus simp [-getElem?_pos, ]); (focus simp [-getElem?_pos, z0, z1, z2, ]); simp [-getElem?_pos, z0, z1, z2, ]
    repeat (first | (with_reducible first | refine AWi.seqK fun _ => ?_ | refine AWi.blockK fun _ => ?_ | refine KI.go ?_) | ((first | refine AWi.region tabOk ?_ | refine AWi.condK fun _ _ => ?_); simp [-getElem?_pos, z0, z1, z2, h0]) | ((first | refine AWi.ret ?_ | refine AWi.skip ?_ | refine AWi.exit ?_); try simp only [thenP]) | (with_reducible refine BB.go ?_; simp only [blockP, thenP, reduceIte]))
    exact RI.ret rfl ⟨fun j hj => by (try dsimp only); repeat (first | rw [setMem_lt (by omega)] | rw [putN_lt (by omega)]), by rw [hE]; rfl⟩
theorem checkRows_c (l : List HS) (e g : HE) (Ls : List (List Int)) (hL : ∀ L ∈ Ls, L.length ≤ 1000000) : ACall Try.prog 28 [boxD l, edgD e, edgD g, .list (listsD Ls)] (iD (chkRows l e g Ls)) :=
  ACall.ofR (RCall.of (n0 := 0) fun n _ => (checkRows_x l e g Ls hL n _).mono fun _ _ _ h => ⟨h.2, h.1⟩)
end Go.Proofs.Ytgiomfamlbmpcaa.Eng

namespace Go.Proofs.Ytgiomfamlbmpcaa.Eng
open Go.RowKit
theorem rowOfB_no {L : List Int} {k : Nat} {x : Int} (hx : L[k]? = some x) (h : x < -1 ∨ 100 < x) : rowOfB L = false := by
  have : fromK (-1) 100 L = false := allK_not hx (p := fun x => inK x (-1) 100) (decide_eq_false fun h2 => by omega)
  simp [rowOfB, this]
theorem rowOfB_up {L : List Int} {j : Nat} {x y : Int} (hj : j + 1 < 7) (hy : L[j]? = some y) (hx : L[j + 1]? = some x) (h : y < x) : rowOfB L = false := by
  cases hB : rowOfB L with
  | false => rfl
  | true =>
    simp only [rowOfB, Bool.and_eq_true] at hB
    have h2 := hB.2
    rw [descTo, List.all_eq_true] at h2
    have h3 := h2 (j + 1) (by rw [List.mem_range]; omega)
    rw [Nat.add_sub_cancel, atL_of hx, atL_of hy] at h3
    simp at h3
    omega
set_option maxRecDepth 100000 in
set_option maxHeartbeats 4000000 in
theorem refIsRow_c (L : List Int) (hl : L.length ≤ 1000000) : ACall Try.prog 42 [intL L] (bD (rowOfB L)) := by
  obtain ⟨r, hr⟩ : ∃ r, r = rowOfB L := ⟨_, rfl⟩
  rw [← hr]
  by_cases h7 : L.length = 7
  · have h7i : (L.length : Int) = 7 := by omega
    refine acallK tabOk Try.func42 rfl rfl (show 1 ≤ _ by decide) rfl fun _ => ?_; simp only [Try.ntmps42]
    repeat (first | (with_reducible first | refine zq1 fun _ => ?_ | refine zq2 fun _ => ?_ | refine zq3 ?_) | ((first | refine zq4 ?_ | refine zq5 fun _ _ => ?_ | refine zq6 ?_); simp [-getElem?_pos, z0, z1, z2, h7i]) | ((first | refine AWp.ret ?_ | refine AWp.skip ?_ | refine AWp.exit ?_); try simp only [thenP]) | (with_reducible refine zq7 ?_; simp only [blockP, thenP, reduceIte]) | with_reducible refine zq8 ?_)
    refine AWp.loopK (ι := { k : Nat // k ≤ 7 ∧ fromK (-1) 100 (L.take k) = true ∧ descTo L k = true }) (n := 0) (fun k => [(0, .d (intL L)), (3, .d (iD k.1))]) (fun _ => []) (fun k => 7 - k.1) ⟨0, by omega, rfl, rfl⟩ [] ?_ ?_
    · refine ⟨by rfl, by simp [], by simp [or_imp, forall_and, ] <;> (try (intro _hne; simp [_hne])), by decide⟩
    rintro ⟨k, hk, hf, hd⟩ kk
    have w1 : IntKind.i64.wrap ((k : Int) + 1) = (k : Int) + 1 := wrap64_in (by omega)
    by_cases hlt : k < 7
    · have hk7 : (k : Int) < 7 := by omega
      have hkL : k < L.length := by omega
      obtain ⟨x, hx⟩ : ∃ x, L[k]? = some x := ⟨_, List.getElem?_eq_getElem hkL⟩
      have hax := atL_of hx
      by_cases g1 : x < -1
      · have hr' : r = false := by rw [hr]; exact rowOfB_no hx (.inl g1)
        repeat (first | (with_reducible first | refine zq1 fun _ => ?_ | refine zq2 fun _ => ?_ | refine zq3 ?_) | ((first | refine zq4 ?_ | refine zq5 fun _ _ => ?_ | refine zq6 ?_); simp [-getElem?_pos, z0, z1, z2, hkL, hk7, hx, g1, h7]) | ((first | refine AWp.ret ?_ | refine AWp.skip ?_ | refine AWp.exit ?_); try simp only [thenP]) | (with_reducible refine zq7 ?_; simp only [blockP, thenP, reduceIte]) | with_reducible refine zq8 ?_)
        (first | refine RR.ret ?_ | refine RR.normal ?_); simp [hr']
      by_cases g2 : 100 < x
      · have hr' : r = false := by rw [hr]; exact rowOfB_no hx (.inr g2)
        repeat (first | (with_reducible first | refine zq1 fun _ => ?_ | refine zq2 fun _ => ?_ | refine zq3 ?_) | ((first | refine zq4 ?_ | refine zq5 fun _ _ => ?_ | refine zq6 ?_); simp [-getElem?_pos, z0, z1, z2, hkL, hk7, hx, g1, g2, h7]) | ((first | refine AWp.ret ?_ | refine AWp.skip ?_ | refine AWp.exit ?_); try simp only [thenP]) | (with_reducible refine zq7 ?_; simp only [blockP, thenP, reduceIte]) | with_reducible refine zq8 ?_)
        (first | refine RR.ret ?_ | refine RR.normal ?_); simp [hr']
      have hf' : fromK (-1) 100 (L.take (k + 1)) = true := by
        rw [fromK, allK_take hx (fun x => inK x (-1) 100), Bool.and_eq_true]
        exact ⟨hf, decide_eq_true (by omega)⟩
      rcases k with _ | j
      · have wk1 : IntKind.i64.wrap 1 = 1 := by decide
        repeat (first | (with_reducible first | refine zq1 fun _ => ?_ | refine zq2 fun _ => ?_ | refine zq3 ?_) | ((first | refine zq4 ?_ | refine zq5 fun _ _ => ?_ | refine zq6 ?_); simp [-getElem?_pos, z0, z1, z2, hkL, hk7, hx, g1, g2, h7, wk1]) | ((first | refine AWp.ret ?_ | refine AWp.skip ?_ | refine AWp.exit ?_); try simp only [thenP]) | (with_reducible refine zq7 ?_; simp only [blockP, thenP, reduceIte]) | with_reducible refine zq8 ?_)
        refine LL.go ⟨1, by omega, hf', rfl⟩ [] ⟨by rfl, by simp [], by simp [or_imp, forall_and, ] <;> (try (intro _hne; simp [_hne])), by decide⟩ ?_
        simp
      · obtain ⟨y, hy⟩ : ∃ y, L[j]? = some y := ⟨_, List.getElem?_eq_getElem (by omega)⟩
        have w2 : IntKind.i64.wrap (j : Int) = (j : Int) := wrap64_in (by omega)
        have w3 : IntKind.i64.wrap ((j : Int) + 1 + 1) = (j : Int) + 1 + 1 := wrap64_in (by omega)
        have hk10 : 0 ≤ (j : Int) + 1 := by omega
        have hk11 : (0 : Int) < (j : Int) + 1 := by omega
        have hk8 : (j : Int) + 1 < 7 := by omega
        have hjL : j < L.length := by omega
        by_cases g3 : y < x
        · have hr' : r = false := by rw [hr]; exact rowOfB_up (by omega) hy hx g3
          repeat (first | (with_reducible first | refine zq1 fun _ => ?_ | refine zq2 fun _ => ?_ | refine zq3 ?_) | ((first | refine zq4 ?_ | refine zq5 fun _ _ => ?_ | refine zq6 ?_); simp [-getElem?_pos, z0, z1, z2, hkL, hk7, hx, hy, g1, g2, g3, h7, w2, w3, hk8, hk10, hk11, hjL]) | ((first | refine AWp.ret ?_ | refine AWp.skip ?_ | refine AWp.exit ?_); try simp only [thenP]) | (with_reducible refine zq7 ?_; simp only [blockP, thenP, reduceIte]) | with_reducible refine zq8 ?_)
          (first | refine RR.ret ?_ | refine RR.normal ?_); simp [hr']
        · have hd' : descTo L (j + 1 + 1) = true := by
            rw [descTo_succ, hd, Nat.add_sub_cancel, hax, atL_of hy]
            simp
            omega
          repeat (first | (with_reducible first | refine zq1 fun _ => ?_ | refine zq2 fun _ => ?_ | refine zq3 ?_) | ((first | refine zq4 ?_ | refine zq5 fun _ _ => ?_ | refine zq6 ?_); simp [-getElem?_pos, z0, z1, z2, hkL, hk7, hx, hy, g1, g2, g3, h7, w2, w3, hk8, hk10, hk11, hjL]) | ((first | refine AWp.ret ?_ | refine AWp.skip ?_ | refine AWp.exit ?_); try simp only [thenP]) | (with_reducible refine zq7 ?_; simp only [blockP, thenP, reduceIte]) | with_reducible refine zq8 ?_)
          refine LL.go ⟨j + 1 + 1, by omega, hf', hd'⟩ [] ⟨by rfl, by simp [], by simp [or_imp, forall_and, ] <;> (try (intro _hne; simp [_hne])), by decide⟩ ?_
          simp; omega
    · obtain rfl : k = 7 := by omega
      have hr' : r = true := by
        rw [hr]
        rw [← h7, List.take_length] at hf
        simp [rowOfB, hf, h7, hd]
      repeat (first | (with_reducible first | refine zq1 fun _ => ?_ | refine zq2 fun _ => ?_ | refine zq3 ?_) | ((first | refine zq4 ?_ | refine zq5 fun _ _ => ?_ | refine zq6 ?_); simp [-getElem?_pos, z0, z1, z2, ]) | ((first | refine AWp.ret ?_ | refine AWp.skip ?_ | refine AWp.exit ?_); try simp only [thenP]) | (with_reducible refine zq7 ?_; simp only [blockP, thenP, reduceIte]) | with_reducible refine zq8 ?_)
      (first | refine RR.ret ?_ | refine RR.normal ?_); simp [hr']
  · have hr' : r = false := by rw [hr]; simp [rowOfB, h7]
    have h7i : ¬ (L.length : Int) = 7 := by omega
    refine acallK tabOk Try.func42 rfl rfl (show 1 ≤ _ by decide) rfl fun _ => ?_; simp only [Try.ntmps42]
    repeat (first | (with_reducible first | refine zq1 fun _ => ?_ | refine zq2 fun _ => ?_ | refine zq3 ?_) | ((first | refine zq4 ?_ | refine zq5 fun _ _ => ?_ | refine zq6 ?_); simp [-getElem?_pos, z0, z1, z2, h7i]) | ((first | refine AWp.ret ?_ | refine AWp.skip ?_ | refine AWp.exit ?_); try simp only [thenP]) | (with_reducible refine zq7 ?_; simp only [blockP, thenP, reduceIte]) | with_reducible refine zq8 ?_)
    (first | refine RR.ret ?_ | refine RR.normal ?_); simp [hr']
def holdsB (g : HE) (L : List Int) : Bool := (List.range (g.burr.toNat + 1)).all fun b => decide (g.depth ≤ atL L b)
theorem all_to {p : Nat → Bool} {k n : Nat} (h : (List.range n).all p = true) (hk : k < n) : p k = true := by
  rw [List.all_eq_true] at h
  exact h k (List.mem_range.2 hk)
theorem all_succ (p : Nat → Bool) (k : Nat) : (List.range (k + 1)).all p = ((List.range k).all p && p k) := by
  simp [List.range_succ]
theorem all_no {p : Nat → Bool} {k n : Nat} (hk : k < n) (h : p k = false) : (List.range n).all p = false := by
  cases ha : (List.range n).all p with
  | false => rfl
  | true => rw [all_to ha hk] at h; cases h
set_option maxRecDepth 100000 in
set_option maxHeartbeats 4000000 in
theorem refHolds_c (g : HE) (gg : GoodE g) (L : List Int) (h7 : L.length = 7) : ACall Try.prog 64 [edgD g, intL L] (bD (holdsB g L)) := by
  obtain ⟨r, hr⟩ : ∃ r, r = holdsB g L := ⟨_, rfl⟩
  rw [← hr]
  obtain ⟨h1, h2, h3, h4⟩ := gg
  obtain ⟨B, hB⟩ := Int.eq_ofNat_of_zero_le h3
  have hBn : g.burr.toNat = B := by omega
  rw [holdsB, hBn] at hr
  refine acallK tabOk Try.func64 rfl rfl (show 2 ≤ _ by decide) rfl fun _ => ?_; simp only [Try.ntmps64]
  repeat (first | (with_reducible first | refine zq1 fun _ => ?_ | refine zq2 fun _ => ?_ | refine zq3 ?_) | ((first | refine zq4 ?_ | refine zq5 fun _ _ => ?_ | refine zq6 ?_); simp [-getElem?_pos, z0, z1, z2, ]) | ((first | refine AWp.ret ?_ | refine AWp.skip ?_ | refine AWp.exit ?_); try simp only [thenP]) | (with_reducible refine zq7 ?_; simp only [blockP, thenP, reduceIte]) | with_reducible refine zq8 ?_)
  refine AWp.loopK (ι := { k : Nat // k ≤ B + 1 ∧ ((List.range k).all fun b => decide (g.depth ≤ atL L b)) = true }) (n := 1) (fun k => [(1, .d (intL L)), (2, .ptr 0 0 0), (5, .d (iD k.1))]) (fun _ => [(0, .box 24 [.d (iD g.depth), .d (iD g.burr)] false)]) (fun k => B + 1 - k.1) ⟨0, by omega, rfl⟩ [0] ?_ ?_
  · refine ⟨by rfl, by simp [], by simp [or_imp, forall_and, ] <;> (try (intro _hne; simp [_hne])), by decide⟩
  rintro ⟨k, hk, hall⟩ kk
  have w1 : IntKind.i64.wrap ((k : Int) + 1) = (k : Int) + 1 := wrap64_in (by omega)
  by_cases hlt : k < B + 1
  · have hkb : (k : Int) ≤ g.burr := by omega
    have hkL : k < L.length := by omega
    have hk7 : k < 7 := by omega
    obtain ⟨x, hx⟩ : ∃ x, L[k]? = some x := ⟨_, List.getElem?_eq_getElem hkL⟩
    have hax := atL_of hx
    have hs := all_succ (fun b => decide (g.depth ≤ atL L b)) k
    rw [hall, Bool.true_and, hax] at hs
    by_cases gx : x < g.depth
    · have hr' : r = false := by rw [hr]; exact all_no hlt (by rw [hax]; exact decide_eq_false (by omega))
      repeat (first | (with_reducible first | refine zq1 fun _ => ?_ | refine zq2 fun _ => ?_ | refine zq3 ?_) | ((first | refine zq4 ?_ | refine zq5 fun _ _ => ?_ | refine zq6 ?_); simp [-getElem?_pos, z0, z1, z2, hkb, hkL, hk7, hx, gx, h7]) | ((first | refine AWp.ret ?_ | refine AWp.skip ?_ | refine AWp.exit ?_); try simp only [thenP]) | (with_reducible refine zq7 ?_; simp only [blockP, thenP, reduceIte]) | with_reducible refine zq8 ?_)
      (first | refine RR.ret ?_ | refine RR.normal ?_); simp [hr']
    · repeat (first | (with_reducible first | refine zq1 fun _ => ?_ | refine zq2 fun _ => ?_ | refine zq3 ?_) | ((first | refine zq4 ?_ | refine zq5 fun _ _ => ?_ | refine zq6 ?_); simp [-getElem?_pos, z0, z1, z2, hkb, hkL, hk7, hx, gx, h7, w1]) | ((first | refine AWp.ret ?_ | refine AWp.skip ?_ | refine AWp.exit ?_); try simp only [thenP]) | (with_reducible refine zq7 ?_; simp only [blockP, thenP, reduceIte]) | with_reducible refine zq8 ?_)
      refine LL.go ⟨k + 1, hlt, by rw [hs]; exact decide_eq_true (by omega)⟩ [0] ⟨by rfl, by simp [], by simp [or_imp, forall_and, ] <;> (try (intro _hne; simp [_hne])), by decide⟩ ?_
      simp; omega
  · obtain rfl : k = B + 1 := by omega
    have hkb : ¬ ((B : Int) + 1 ≤ g.burr) := by omega
    have hr' : r = true := by rw [hr, hall]
    repeat (first | (with_reducible first | refine zq1 fun _ => ?_ | refine zq2 fun _ => ?_ | refine zq3 ?_) | ((first | refine zq4 ?_ | refine zq5 fun _ _ => ?_ | refine zq6 ?_); simp [-getElem?_pos, z0, z1, z2, hkb]) | ((first | refine AWp.ret ?_ | refine AWp.skip ?_ | refine AWp.exit ?_); try simp only [thenP]) | (with_reducible refine zq7 ?_; simp only [blockP, thenP, reduceIte]) | with_reducible refine zq8 ?_)
    (first | refine RR.ret ?_ | refine RR.normal ?_); simp [hr']
def ixE (i : Nat) : HE := ⟨((i / 7 : Nat) : Int), ((i % 7 : Nat) : Int)⟩
def intoB (L : List Int) (e : HE) (s : HS) : Bool := canS s e && decide ((strE s e).depth ≤ atL L (strE s e).burr.toNat)
def leaveB (l : List HS) (L L2 : List Int) (i : Nat) : Bool := decide (((i / 7 : Nat) : Int) ≤ atL L (i % 7)) || l.all fun s => !intoB L2 (ixE i) s
def leavesB (l : List HS) (L L2 : List Int) : Bool := (List.range 707).all (leaveB l L L2)
theorem ixE_good {i : Nat} (h : i < 707) : GoodE (ixE i) := by
  refine ⟨?_, ?_, ?_, ?_⟩ <;> simp only [ixE] <;> omega
set_option maxRecDepth 100000 in
set_option maxHeartbeats 8000000 in
theorem refLeaves_c (l : List HS) (hl : l.all okS = true) (hn6 : l.length ≤ 6) (L L2 : List Int) (h7 : L.length = 7) (h72 : L2.length = 7) : ACall Try.prog 65 [boxD l, intL L, intL L2] (bD (leavesB l L L2)) := by
  obtain ⟨r, hr⟩ : ∃ r, r = leavesB l L L2 := ⟨_, rfl⟩
  rw [← hr]
  refine acallK tabOk Try.func65 rfl rfl (show 3 ≤ _ by decide) rfl fun _ => ?_; simp only [Try.ntmps65]
  repeat (first | (with_reducible first | refine zq1 fun _ => ?_ | refine zq2 fun _ => ?_ | refine zq3 ?_) | ((first | refine zq4 ?_ | refine zq5 fun _ _ => ?_ | refine zq6 ?_); simp [-getElem?_pos, z0, z1, z2, ]) | ((first | refine AWp.ret ?_ | refine AWp.skip ?_ | refine AWp.exit ?_); try simp only [thenP]) | (with_reducible refine zq7 ?_; simp only [blockP, thenP, reduceIte]) | with_reducible refine zq8 ?_)
  refine AWp.loopK (ι := { k : Nat // k ≤ 707 ∧ (List.range k).all (leaveB l L L2) = true }) (n := 0) (fun k => [(0, .d (boxD l)), (1, .d (intL L)), (2, .d (intL L2)), (7, .d (iD k.1))]) (fun _ => []) (fun k => 707 - k.1) ⟨0, by omega, rfl⟩ [] ?_ ?_
  · refine ⟨by rfl, by simp [], by simp [or_imp, forall_and, ] <;> (try (intro _hne; simp [_hne])), by decide⟩
  rintro ⟨i, hi, hall⟩ kk
  have w1 : IntKind.i64.wrap ((i : Int) + 1) = (i : Int) + 1 := wrap64_in (by omega)
  by_cases hlt : i < 707
  · have hii : (i : Int) < 707 := by omega
    obtain ⟨d, hd⟩ : ∃ d, d = i / 7 := ⟨_, rfl⟩
    obtain ⟨b, hb⟩ : ∃ b, b = i % 7 := ⟨_, rfl⟩
    have q1 : (i : Int).tdiv 7 = (d : Int) := by rw [Int.tdiv_eq_ediv_of_nonneg (by omega)]; omega
    have q2 : (i : Int).tmod 7 = (b : Int) := by rw [Int.tmod_eq_emod_of_nonneg (by omega)]; omega
    have q3 : IntKind.i64.wrap (d : Int) = (d : Int) := wrap64_in (by omega)
    have hb7 : b < 7 := by omega
    have hb7i : (b : Int) < 7 := by omega
    have hmL : b < L.length := by omega
    obtain ⟨x, hx⟩ : ∃ x, L[b]? = some x := ⟨_, List.getElem?_eq_getElem hmL⟩
    have hax := atL_of hx
    have hge : GoodE (⟨d, b⟩ : HE) := by
      have h := ixE_good hlt
      rw [ixE, ← hd, ← hb] at h
      exact h
    have hs := all_succ (leaveB l L L2) i
    rw [hall, Bool.true_and, leaveB, ← hd, ← hb, hax, ixE, ← hd, ← hb] at hs
    have hi1 : i + 1 ≤ 707 := hlt
    by_cases gx : (d : Int) ≤ x
    · have hs' : (List.range (i + 1)).all (leaveB l L L2) = true := by rw [hs]; simp [gx]
      repeat (first | (with_reducible first | refine zq1 fun _ => ?_ | refine zq2 fun _ => ?_ | refine zq3 ?_) | ((first | refine zq4 ?_ | refine zq5 fun _ _ => ?_ | refine zq6 ?_); simp [-getElem?_pos, z0, z1, z2, hii, q1, q2, q3, hb7, hb7i, hmL, hx, h7, gx, w1]) | ((first | refine AWp.ret ?_ | refine AWp.skip ?_ | refine AWp.exit ?_); try simp only [thenP]) | (with_reducible refine zq7 ?_; simp only [blockP, thenP, reduceIte]) | with_reducible refine zq8 ?_)
      refine LL.go ⟨i + 1, hi1, hs'⟩ [] ⟨by rfl, by simp [], by simp [or_imp, forall_and, ] <;> (try (intro _hne; simp [_hne])), by decide⟩ ?_
      simp; omega
    · have hs2 : (List.range (i + 1)).all (leaveB l L L2) = l.all fun s => !intoB L2 ⟨d, b⟩ s := by rw [hs]; simp [gx]
      repeat (first | (with_reducible first | refine zq1 fun _ => ?_ | refine zq2 fun _ => ?_ | refine zq3 ?_) | ((first | refine zq4 ?_ | refine zq5 fun _ _ => ?_ | refine zq6 ?_); simp [-getElem?_pos, z0, z1, z2, hii, q1, q2, q3, hb7, hb7i, hmL, hx, h7, gx]) | ((first | refine AWp.ret ?_ | refine AWp.skip ?_ | refine AWp.exit ?_); try simp only [thenP]) | (with_reducible refine zq7 ?_; simp only [blockP, thenP, reduceIte]) | with_reducible refine zq8 ?_)
      refine AWp.loopK (ι := { j : Nat // j ≤ l.length ∧ ((l.take j).all fun s => !intoB L2 ⟨d, b⟩ s) = true }) (n := 0) (fun j => [(0, .d (boxD l)), (1, .d (intL L)), (2, .d (intL L2)), (7, .d (iD i)), (8, .d (iD j.1))]) (fun _ => []) (fun j => l.length - j.1) ⟨0, by omega, rfl⟩ [] ?_ ?_
      · refine ⟨by rfl, by simp [], by simp [or_imp, forall_and, ] <;> (try (intro _hne; simp [_hne])), by decide⟩
      rintro ⟨j, hj, hallj⟩ kk2
      have w2 : IntKind.i64.wrap ((j : Int) + 1) = (j : Int) + 1 := wrap64_in (by omega)
      by_cases hltj : j < l.length
      · have hji : (j : Int) < (l.length : Int) := by omega
        obtain ⟨st, hst⟩ : ∃ st, l[j]? = some st := ⟨_, List.getElem?_eq_getElem hltj⟩
        have gst := goodS hl hst
        have cs := refStroke_c st ⟨d, b⟩ gst hge
        have hsj := allK_take hst (fun s => !intoB L2 ⟨d, b⟩ s)
        rw [hallj, Bool.true_and] at hsj
        have hj1 : j + 1 ≤ l.length := hltj
        rcases hc : canS st ⟨d, b⟩
        · have hin : intoB L2 ⟨d, b⟩ st = false := by rw [intoB, hc]; rfl
          rw [hc] at cs
          repeat (first | (with_reducible first | refine zq1 fun _ => ?_ | refine zq2 fun _ => ?_ | refine zq3 ?_) | ((first | refine zq4 ?_ | refine zq5 fun _ _ => ?_ | refine zq6 ?_); simp [-getElem?_pos, z0, z1, z2, hji, hltj, hst, q1, q2, q3]) | ((first | refine AWp.ret ?_ | refine AWp.skip ?_ | refine AWp.exit ?_); try simp only [thenP]) | (with_reducible refine zq7 ?_; simp only [blockP, thenP, reduceIte]) | with_reducible refine zq8 ?_)
          (first | refine Exec0.call [] cs ?_ rfl ?_ ?_ | refine Exec.call [] cs ?_ rfl ?_ ?_); (focus simp [-getElem?_pos, q1, q2, q3]); (focus simp [-getElem?_pos, z0, z1, z2, q1, q2, q3]); simp [-getElem?_pos, z0, z1, z2, q1, q2, q3]
          repeat (first | (with_reducible first | refine zq1 fun _ => ?_ | refine zq2 fun _ => ?_ | refine zq3 ?_) | ((first | refine zq4 ?_ | refine zq5 fun _ _ => ?_ | refine zq6 ?_); simp [-getElem?_pos, z0, z1, z2, w2]) | ((first | refine AWp.ret ?_ | refine AWp.skip ?_ | refine AWp.exit ?_); try simp only [thenP]) | (with_reducible refine zq7 ?_; simp only [blockP, thenP, reduceIte]) | with_reducible refine zq8 ?_)
          refine LL.go ⟨j + 1, hj1, by rw [hsj, hin]; rfl⟩ [] ⟨by rfl, by simp [], by simp [or_imp, forall_and, ] <;> (try (intro _hne; simp [_hne])), by decide⟩ ?_
          simp; omega
        · have hgs := GoodE.str gst hge hc
          have hR : strR st ⟨d, b⟩ = strE st ⟨d, b⟩ := by rw [strR, hc]; rfl
          rw [hc, hR] at cs
          have hin : intoB L2 ⟨d, b⟩ st = decide ((strE st ⟨d, b⟩).depth ≤ atL L2 (strE st ⟨d, b⟩).burr.toNat) := by rw [intoB, hc, Bool.true_and]
          generalize strE st ⟨d, b⟩ = e2 at *
          obtain ⟨e3, e4⟩ := e2
          obtain ⟨u1, u2, u3, u4⟩ := hgs
          simp only at u1 u2 u3 u4 hin
          obtain ⟨B2, rfl⟩ := Int.eq_ofNat_of_zero_le u3
          rw [show ((B2 : Int)).toNat = B2 by omega] at hin
          have hB7 : B2 < 7 := by omega
          have hB7i : (B2 : Int) < 7 := by omega
          have hBL : B2 < L2.length := by omega
          obtain ⟨y, hy⟩ : ∃ y, L2[B2]? = some y := ⟨_, List.getElem?_eq_getElem hBL⟩
          rw [atL_of hy] at hin
          by_cases gy : e3 ≤ y
          · have hr' : r = false := by
              rw [hr]
              refine all_no hlt ?_
              rw [leaveB, ← hd, ← hb, hax, ixE, ← hd, ← hb, decide_eq_false gx, Bool.false_or]
              exact allK_not hst (by rw [hin]; simp [gy])
            repeat (first | (with_reducible first | refine zq1 fun _ => ?_ | refine zq2 fun _ => ?_ | refine zq3 ?_) | ((first | refine zq4 ?_ | refine zq5 fun _ _ => ?_ | refine zq6 ?_); simp [-getElem?_pos, z0, z1, z2, hji, hltj, hst, q1, q2, q3]) | ((first | refine AWp.ret ?_ | refine AWp.skip ?_ | refine AWp.exit ?_); try simp only [thenP]) | (with_reducible refine zq7 ?_; simp only [blockP, thenP, reduceIte]) | with_reducible refine zq8 ?_)
            (first | refine Exec0.call [] cs ?_ rfl ?_ ?_ | refine Exec.call [] cs ?_ rfl ?_ ?_); (focus simp [-getElem?_pos, q1, q2, q3]); (focus simp [-getElem?_pos, z0, z1, z2, q1, q2, q3]); simp [-getElem?_pos, z0, z1, z2, q1, q2, q3]
            repeat (first | (with_reducible first | refine zq1 fun _ => ?_ | refine zq2 fun _ => ?_ | refine zq3 ?_) | ((first | refine zq4 ?_ | refine zq5 fun _ _ => ?_ | refine zq6 ?_); simp [-getElem?_pos, z0, z1, z2, w2, hB7, hB7i, hBL, hy, gy, h72]) | ((first | refine AWp.ret ?_ | refine AWp.skip ?_ | refine AWp.exit ?_); try simp only [thenP]) | (with_reducible refine zq7 ?_; simp only [blockP, thenP, reduceIte]) | with_reducible refine zq8 ?_)
            (first | refine RR.ret ?_ | refine RR.normal ?_); simp [hr']
          · repeat (first | (with_reducible first | refine zq1 fun _ => ?_ | refine zq2 fun _ => ?_ | refine zq3 ?_) | ((first | refine zq4 ?_ | refine zq5 fun _ _ => ?_ | refine zq6 ?_); simp [-getElem?_pos, z0, z1, z2, hji, hltj, hst, q1, q2, q3]) | ((first | refine AWp.ret ?_ | refine AWp.skip ?_ | refine AWp.exit ?_); try simp only [thenP]) | (with_reducible refine zq7 ?_; simp only [blockP, thenP, reduceIte]) | with_reducible refine zq8 ?_)
            (first | refine Exec0.call [] cs ?_ rfl ?_ ?_ | refine Exec.call [] cs ?_ rfl ?_ ?_); (focus simp [-getElem?_pos, q1, q2, q3]); (focus simp [-getElem?_pos, z0, z1, z2, q1, q2, q3]); simp [-getElem?_pos, z0, z1, z2, q1, q2, q3]
            repeat (first | (with_reducible first | refine zq1 fun _ => ?_ | refine zq2 fun _ => ?_ | refine zq3 ?_) | ((first | refine zq4 ?_ | refine zq5 fun _ _ => ?_ | refine zq6 ?_); simp [-getElem?_pos, z0, z1, z2, w2, hB7, hB7i, hBL, hy, gy, h72]) | ((first | refine AWp.ret ?_ | refine AWp.skip ?_ | refine AWp.exit ?_); try simp only [thenP]) | (with_reducible refine zq7 ?_; simp only [blockP, thenP, reduceIte]) | with_reducible refine zq8 ?_)
            refine LL.go ⟨j + 1, hj1, by rw [hsj, hin]; simp [gy]⟩ [] ⟨by rfl, by simp [], by simp [or_imp, forall_and, ] <;> (try (intro _hne; simp [_hne])), by decide⟩ ?_
            simp; omega
      · obtain rfl : j = l.length := by omega
        rw [List.take_length] at hallj
        repeat (first | (with_reducible first | refine zq1 fun _ => ?_ | refine zq2 fun _ => ?_ | refine zq3 ?_) | ((first | refine zq4 ?_ | refine zq5 fun _ _ => ?_ | refine zq6 ?_); simp [-getElem?_pos, z0, z1, z2, w1]) | ((first | refine AWp.ret ?_ | refine AWp.skip ?_ | refine AWp.exit ?_); try simp only [thenP]) | (with_reducible refine zq7 ?_; simp only [blockP, thenP, reduceIte]) | with_reducible refine zq8 ?_)
        refine LL.go ⟨i + 1, hi1, hs2.trans hallj⟩ [] ⟨by rfl, by simp [], by simp [or_imp, forall_and, ] <;> (try (intro _hne; simp [_hne])), by decide⟩ ?_
        simp; omega
  · obtain rfl : i = 707 := by omega
    have hr' : r = true := by rw [hr]; exact hall
    repeat (first | (with_reducible first | refine zq1 fun _ => ?_ | refine zq2 fun _ => ?_ | refine zq3 ?_) | ((first | refine zq4 ?_ | refine zq5 fun _ _ => ?_ | refine zq6 ?_); simp [-getElem?_pos, z0, z1, z2, ]) | ((first | refine AWp.ret ?_ | refine AWp.skip ?_ | refine AWp.exit ?_); try simp only [thenP]) | (with_reducible refine zq7 ?_; simp only [blockP, thenP, reduceIte]) | with_reducible refine zq8 ?_)
    (first | refine RR.ret ?_ | refine RR.normal ?_); simp [hr']
end Go.Proofs.Ytgiomfamlbmpcaa.Eng

namespace Go.Proofs.Ytgiomfamlbmpcaa.Eng
open Go.RowKit
def provAt (l : List HS) (e g : HE) (Ls : List (List Int)) (k : Nat) : Bool := (if k = 0 then holdsB g (Ls.getD 0 []) else leavesB l (Ls.getD k []) (Ls.getD (k - 1) [])) && decide (atL (Ls.getD k []) e.burr.toNat < e.depth)
def refChk (l : List HS) (e g : HE) (Ls : List (List Int)) : Int := if chkErr l [e, g] = 0 then (if 800 < Ls.length then 6 else if Ls.all rowOfB then (if (List.range Ls.length).all (provAt l e g Ls) then 0 else 14) else 3) else chkErr l [e, g]
theorem rowOfB_len {L : List Int} (h : rowOfB L = true) : L.length = 7 := by
  simp only [rowOfB, Bool.and_eq_true, decide_eq_true_eq] at h
  exact h.1.1
theorem getD_of {Ls : List (List Int)} {k : Nat} {L : List Int} (h : Ls[k]? = some L) : Ls.getD k [] = L := by rw [List.getD_eq_getElem?_getD, h]; rfl
set_option maxRecDepth 100000 in
set_option maxHeartbeats 8000000 in
theorem refCheckRows_c (l : List HS) (e g : HE) (Ls : List (List Int)) (hL : ∀ L ∈ Ls, L.length ≤ 1000000) : ACall Try.prog 29 [boxD l, edgD e, edgD g, .list (listsD Ls)] (iD (refChk l e g Ls)) := by
  obtain ⟨r, hr⟩ : ∃ r, r = refChk l e g Ls := ⟨_, rfl⟩
  rw [← hr]
  obtain ⟨ed, eb⟩ := e
  have ca := refAsked_c l ⟨ed, eb⟩ g
  have hll : (listsD Ls).length = Ls.length := by simp [listsD]
  by_cases h0 : chkErr l [⟨ed, eb⟩, g] = 0
  · obtain ⟨hb, hes⟩ := chkOk h0
    have ge := goodE (e := (⟨ed, eb⟩ : HE)) (by simp at hes; exact hes.1)
    have gg := goodE (e := g) (by simp at hes; exact hes.2)
    rw [h0] at ca
    rw [refChk, if_pos h0] at hr
    by_cases h8 : 800 < Ls.length
    · have h8i : (800 : Int) < (Ls.length : Int) := by omega
      rw [if_pos h8] at hr
      refine acallK tabOk Try.func29 rfl rfl (show 4 ≤ _ by decide) rfl fun _ => ?_; simp only [Try.ntmps29]
      repeat (first | (with_reducible first | refine zq1 fun _ => ?_ | refine zq2 fun _ => ?_ | refine zq3 ?_) | ((first | refine zq4 ?_ | refine zq5 fun _ _ => ?_ | refine zq6 ?_); simp [-getElem?_pos, z0, z1, z2, ]) | ((first | refine AWp.ret ?_ | refine AWp.skip ?_ | refine AWp.exit ?_); try simp only [thenP]) | (with_reducible refine zq7 ?_; simp only [blockP, thenP, reduceIte]) | with_reducible refine zq8 ?_)
      (first | refine Exec0.call [] ca ?_ rfl ?_ ?_ | refine Exec.call [] ca ?_ rfl ?_ ?_); (focus simp [-getElem?_pos, ]); (focus simp [-getElem?_pos, z0, z1, z2, ]); simp [-getElem?_pos, z0, z1, z2, ]
      repeat (first | (with_reducible first | refine zq1 fun _ => ?_ | refine zq2 fun _ => ?_ | refine zq3 ?_) | ((first | refine zq4 ?_ | refine zq5 fun _ _ => ?_ | refine zq6 ?_); simp [-getElem?_pos, z0, z1, z2, hll, h8, h8i]) | ((first | refine AWp.ret ?_ | refine AWp.skip ?_ | refine AWp.exit ?_); try simp only [thenP]) | (with_reducible refine zq7 ?_; simp only [blockP, thenP, reduceIte]) | with_reducible refine zq8 ?_)
      (first | refine RR.ret ?_ | refine RR.normal ?_); simp [hr]
    rw [if_neg h8] at hr
    obtain ⟨B, rfl⟩ := Int.eq_ofNat_of_zero_le (show 0 ≤ eb from ge.b0)
    have hBn : ((B : Int)).toNat = B := by omega
    have hB7 : B < 7 := by have h9 : (B : Int) ≤ 6 := ge.b1; omega
    have h8i : ¬ (800 : Int) < (Ls.length : Int) := by omega
    refine acallK tabOk Try.func29 rfl rfl (show 4 ≤ _ by decide) rfl fun _ => ?_; simp only [Try.ntmps29]
    repeat (first | (with_reducible first | refine zq1 fun _ => ?_ | refine zq2 fun _ => ?_ | refine zq3 ?_) | ((first | refine zq4 ?_ | refine zq5 fun _ _ => ?_ | refine zq6 ?_); simp [-getElem?_pos, z0, z1, z2, ]) | ((first | refine AWp.ret ?_ | refine AWp.skip ?_ | refine AWp.exit ?_); try simp only [thenP]) | (with_reducible refine zq7 ?_; simp only [blockP, thenP, reduceIte]) | with_reducible refine zq8 ?_)
    (first | refine Exec0.call [] ca ?_ rfl ?_ ?_ | refine Exec.call [] ca ?_ rfl ?_ ?_); (focus simp [-getElem?_pos, ]); (focus simp [-getElem?_pos, z0, z1, z2, ]); simp [-getElem?_pos, z0, z1, z2, ]
    repeat (first | (with_reducible first | refine zq1 fun _ => ?_ | refine zq2 fun _ => ?_ | refine zq3 ?_) | ((first | refine zq4 ?_ | refine zq5 fun _ _ => ?_ | refine zq6 ?_); simp [-getElem?_pos, z0, z1, z2, hll, h8, h8i]) | ((first | refine AWp.ret ?_ | refine AWp.skip ?_ | refine AWp.exit ?_); try simp only [thenP]) | (with_reducible refine zq7 ?_; simp only [blockP, thenP, reduceIte]) | with_reducible refine zq8 ?_)
    refine AWp.loopK (ι := { k : Nat // k ≤ Ls.length ∧ (Ls.take k).all rowOfB = true }) (n := 2) (fun k => [(0, .d (boxD l)), (3, .d (.list (listsD Ls))), (5, .ptr 0 0 0), (6, .ptr 1 0 0), (9, .d (iD k.1))]) (fun _ => [(0, .box 24 [.d (iD ed), .d (iD (B : Int))] false), (1, .box 24 [.d (iD g.depth), .d (iD g.burr)] false)]) (fun k => Ls.length - k.1) ⟨0, by omega, rfl⟩ [0, 1] ?_ ?_
    · refine ⟨by rfl, by simp [], by simp [or_imp, forall_and, ] <;> (try (intro _hne; simp [_hne])), by decide⟩
    rintro ⟨k, hk, hall⟩ kk
    have w1 : IntKind.i64.wrap ((k : Int) + 1) = (k : Int) + 1 := wrap64_in (by omega)
    by_cases hlt : k < Ls.length
    · have hki : (k : Int) < (Ls.length : Int) := by omega
      have hk1 : k + 1 ≤ Ls.length := hlt
      obtain ⟨L, hq⟩ : ∃ L, Ls[k]? = some L := ⟨_, List.getElem?_eq_getElem hlt⟩
      have hrow : (listsD Ls)[k]? = some [intL L] := by rw [listsD, List.getElem?_map, hq]; rfl
      have cr := refIsRow_c L (hL L (List.mem_of_getElem? hq))
      have hs := allK_take hq rowOfB
      rw [hall, Bool.true_and] at hs
      rcases hB : rowOfB L <;> rw [hB] at cr hs
      · have hr' : r = 3 := by rw [hr, allK_not hq hB]; rfl
        repeat (first | (with_reducible first | refine zq1 fun _ => ?_ | refine zq2 fun _ => ?_ | refine zq3 ?_) | ((first | refine zq4 ?_ | refine zq5 fun _ _ => ?_ | refine zq6 ?_); simp [-getElem?_pos, z0, z1, z2, hki, hlt, hrow, hll]) | ((first | refine AWp.ret ?_ | refine AWp.skip ?_ | refine AWp.exit ?_); try simp only [thenP]) | (with_reducible refine zq7 ?_; simp only [blockP, thenP, reduceIte]) | with_reducible refine zq8 ?_)
        (first | refine Exec0.call [] cr ?_ rfl ?_ ?_ | refine Exec.call [] cr ?_ rfl ?_ ?_); (focus simp [-getElem?_pos, ]); (focus simp [-getElem?_pos, z0, z1, z2, ]); simp [-getElem?_pos, z0, z1, z2, ]
        repeat (first | (with_reducible first | refine zq1 fun _ => ?_ | refine zq2 fun _ => ?_ | refine zq3 ?_) | ((first | refine zq4 ?_ | refine zq5 fun _ _ => ?_ | refine zq6 ?_); simp [-getElem?_pos, z0, z1, z2, ]) | ((first | refine AWp.ret ?_ | refine AWp.skip ?_ | refine AWp.exit ?_); try simp only [thenP]) | (with_reducible refine zq7 ?_; simp only [blockP, thenP, reduceIte]) | with_reducible refine zq8 ?_)
        (first | refine RR.ret ?_ | refine RR.normal ?_); simp [hr']
      · repeat (first | (with_reducible first | refine zq1 fun _ => ?_ | refine zq2 fun _ => ?_ | refine zq3 ?_) | ((first | refine zq4 ?_ | refine zq5 fun _ _ => ?_ | refine zq6 ?_); simp [-getElem?_pos, z0, z1, z2, hki, hlt, hrow, hll]) | ((first | refine AWp.ret ?_ | refine AWp.skip ?_ | refine AWp.exit ?_); try simp only [thenP]) | (with_reducible refine zq7 ?_; simp only [blockP, thenP, reduceIte]) | with_reducible refine zq8 ?_)
        (first | refine Exec0.call [] cr ?_ rfl ?_ ?_ | refine Exec.call [] cr ?_ rfl ?_ ?_); (focus simp [-getElem?_pos, ]); (focus simp [-getElem?_pos, z0, z1, z2, ]); simp [-getElem?_pos, z0, z1, z2, ]
        repeat (first | (with_reducible first | refine zq1 fun _ => ?_ | refine zq2 fun _ => ?_ | refine zq3 ?_) | ((first | refine zq4 ?_ | refine zq5 fun _ _ => ?_ | refine zq6 ?_); simp [-getElem?_pos, z0, z1, z2, w1]) | ((first | refine AWp.ret ?_ | refine AWp.skip ?_ | refine AWp.exit ?_); try simp only [thenP]) | (with_reducible refine zq7 ?_; simp only [blockP, thenP, reduceIte]) | with_reducible refine zq8 ?_)
        refine LL.go ⟨k + 1, hk1, hs⟩ [0, 1] ⟨by rfl, by simp [], by simp [or_imp, forall_and, ] <;> (try (intro _hne; simp [_hne])), by decide⟩ ?_
        simp; omega
    · obtain rfl : k = Ls.length := by omega
      rw [List.take_length] at hall
      rw [if_pos hall] at hr
      have h7 : ∀ (j : Nat) L, Ls[j]? = some L → L.length = 7 := fun j L h => rowOfB_len (List.all_eq_true.1 hall L (List.mem_of_getElem? h))
      repeat (first | (with_reducible first | refine zq1 fun _ => ?_ | refine zq2 fun _ => ?_ | refine zq3 ?_) | ((first | refine zq4 ?_ | refine zq5 fun _ _ => ?_ | refine zq6 ?_); simp [-getElem?_pos, z0, z1, z2, hll]) | ((first | refine AWp.ret ?_ | refine AWp.skip ?_ | refine AWp.exit ?_); try simp only [thenP]) | (with_reducible refine zq7 ?_; simp only [blockP, thenP, reduceIte]) | with_reducible refine zq8 ?_)
      refine AWp.loopK (ι := { k : Nat // k ≤ Ls.length ∧ (List.range k).all (provAt l ⟨ed, (B : Int)⟩ g Ls) = true }) (n := 2) (fun k => [(0, .d (boxD l)), (3, .d (.list (listsD Ls))), (5, .ptr 0 0 0), (6, .ptr 1 0 0), (10, .d (iD k.1))]) (fun _ => [(0, .box 24 [.d (iD ed), .d (iD (B : Int))] false), (1, .box 24 [.d (iD g.depth), .d (iD g.burr)] false)]) (fun k => Ls.length - k.1) ⟨0, by omega, rfl⟩ [0, 1] ?_ ?_
      · refine ⟨by rfl, by simp [], by simp [or_imp, forall_and, ] <;> (try (intro _hne; simp [_hne])), by decide⟩
      rintro ⟨k, hk, hall2⟩ kk2
      have w1 : IntKind.i64.wrap ((k : Int) + 1) = (k : Int) + 1 := wrap64_in (by omega)
      by_cases hlt : k < Ls.length
      · have hki : (k : Int) < (Ls.length : Int) := by omega
        have hk1 : k + 1 ≤ Ls.length := hlt
        obtain ⟨L, hq⟩ : ∃ L, Ls[k]? = some L := ⟨_, List.getElem?_eq_getElem hlt⟩
        have hrow : (listsD Ls)[k]? = some [intL L] := by rw [listsD, List.getElem?_map, hq]; rfl
        have hL7 := h7 k L hq
        have hs := all_succ (provAt l ⟨ed, (B : Int)⟩ g Ls) k
        rw [hall2, Bool.true_and] at hs
        have hgD := getD_of hq
        have hB7i : (B : Int) < 7 := by omega
        have hBL : B < L.length := by omega
        obtain ⟨y, hy⟩ : ∃ y, L[B]? = some y := ⟨_, List.getElem?_eq_getElem hBL⟩
        have hay := atL_of hy
        have hprov : provAt l ⟨ed, (B : Int)⟩ g Ls k = ((if k = 0 then holdsB g (Ls.getD 0 []) else leavesB l L (Ls.getD (k - 1) [])) && decide (y < ed)) := by rw [provAt, hgD]; show (_ && decide (atL L (B : Int).toNat < ed)) = _; rw [hBn, hay]
        have hno : ∀ b, provAt l ⟨ed, (B : Int)⟩ g Ls k = b → b = false → r = 14 := fun b h1 h2 => by rw [hr, all_no hlt (h1.trans h2)]; rfl
        rcases k with _ | k
        · rw [if_pos rfl, hgD] at hprov
          have ch := refHolds_c g gg L hL7
          have hrow0 : (listsD Ls)[0]? = some [intL L] := hrow
          rcases hH : holdsB g L <;> rw [hH] at ch hprov
          · have hr' := hno _ hprov rfl
            repeat (first | (with_reducible first | refine zq1 fun _ => ?_ | refine zq2 fun _ => ?_ | refine zq3 ?_) | ((first | refine zq4 ?_ | refine zq5 fun _ _ => ?_ | refine zq6 ?_); simp [-getElem?_pos, z0, z1, z2, hki, hlt, hrow, hrow0, hll]) | ((first | refine AWp.ret ?_ | refine AWp.skip ?_ | refine AWp.exit ?_); try simp only [thenP]) | (with_reducible refine zq7 ?_; simp only [blockP, thenP, reduceIte]) | with_reducible refine zq8 ?_)
            (first | refine Exec0.call [] ch ?_ rfl ?_ ?_ | refine Exec.call [] ch ?_ rfl ?_ ?_); (focus simp [-getElem?_pos, hrow, hrow0, hki, hlt, hll, hB7, hB7i, hBL, hL7, hy]); (focus simp [-getElem?_pos, z0, z1, z2, hrow, hrow0, hki, hlt, hll, hB7, hB7i, hBL, hL7, hy]); simp [-getElem?_pos, z0, z1, z2, hrow, hrow0, hki, hlt, hll, hB7, hB7i, hBL, hL7, hy]
            repeat (first | (with_reducible first | refine zq1 fun _ => ?_ | refine zq2 fun _ => ?_ | refine zq3 ?_) | ((first | refine zq4 ?_ | refine zq5 fun _ _ => ?_ | refine zq6 ?_); simp [-getElem?_pos, z0, z1, z2, hki, hlt, hrow, hrow0, hll]) | ((first | refine AWp.ret ?_ | refine AWp.skip ?_ | refine AWp.exit ?_); try simp only [thenP]) | (with_reducible refine zq7 ?_; simp only [blockP, thenP, reduceIte]) | with_reducible refine zq8 ?_)
            (first | refine RR.ret ?_ | refine RR.normal ?_); simp [hr']
          · by_cases gy : ed ≤ y
            · have hr' := hno _ hprov (by simp; omega)
              repeat (first | (with_reducible first | refine zq1 fun _ => ?_ | refine zq2 fun _ => ?_ | refine zq3 ?_) | ((first | refine zq4 ?_ | refine zq5 fun _ _ => ?_ | refine zq6 ?_); simp [-getElem?_pos, z0, z1, z2, hki, hlt, hrow, hrow0, hll]) | ((first | refine AWp.ret ?_ | refine AWp.skip ?_ | refine AWp.exit ?_); try simp only [thenP]) | (with_reducible refine zq7 ?_; simp only [blockP, thenP, reduceIte]) | with_reducible refine zq8 ?_)
              (first | refine Exec0.call [] ch ?_ rfl ?_ ?_ | refine Exec.call [] ch ?_ rfl ?_ ?_); (focus simp [-getElem?_pos, hrow, hrow0, hki, hlt, hll, hB7, hB7i, hBL, hL7, hy]); (focus simp [-getElem?_pos, z0, z1, z2, hrow, hrow0, hki, hlt, hll, hB7, hB7i, hBL, hL7, hy]); simp [-getElem?_pos, z0, z1, z2, hrow, hrow0, hki, hlt, hll, hB7, hB7i, hBL, hL7, hy]
              repeat (first | (with_reducible first | refine zq1 fun _ => ?_ | refine zq2 fun _ => ?_ | refine zq3 ?_) | ((first | refine zq4 ?_ | refine zq5 fun _ _ => ?_ | refine zq6 ?_); simp [-getElem?_pos, z0, z1, z2, hki, hlt, hrow, hrow0, hll, hB7, hB7i, hBL, hL7, hy, gy]) | ((first | refine AWp.ret ?_ | refine AWp.skip ?_ | refine AWp.exit ?_); try simp only [thenP]) | (with_reducible refine zq7 ?_; simp only [blockP, thenP, reduceIte]) | with_reducible refine zq8 ?_)
              (first | refine RR.ret ?_ | refine RR.normal ?_); simp [hr']
            · have wk1 : IntKind.i64.wrap 1 = 1 := by decide
              repeat (first | (with_reducible first | refine zq1 fun _ => ?_ | refine zq2 fun _ => ?_ | refine zq3 ?_) | ((first | refine zq4 ?_ | refine zq5 fun _ _ => ?_ | refine zq6 ?_); simp [-getElem?_pos, z0, z1, z2, hki, hlt, hrow, hrow0, hll]) | ((first | refine AWp.ret ?_ | refine AWp.skip ?_ | refine AWp.exit ?_); try simp only [thenP]) | (with_reducible refine zq7 ?_; simp only [blockP, thenP, reduceIte]) | with_reducible refine zq8 ?_)
              (first | refine Exec0.call [] ch ?_ rfl ?_ ?_ | refine Exec.call [] ch ?_ rfl ?_ ?_); (focus simp [-getElem?_pos, hrow, hrow0, hki, hlt, hll, hB7, hB7i, hBL, hL7, hy]); (focus simp [-getElem?_pos, z0, z1, z2, hrow, hrow0, hki, hlt, hll, hB7, hB7i, hBL, hL7, hy]); simp [-getElem?_pos, z0, z1, z2, hrow, hrow0, hki, hlt, hll, hB7, hB7i, hBL, hL7, hy]
              repeat (first | (with_reducible first | refine zq1 fun _ => ?_ | refine zq2 fun _ => ?_ | refine zq3 ?_) | ((first | refine zq4 ?_ | refine zq5 fun _ _ => ?_ | refine zq6 ?_); simp [-getElem?_pos, z0, z1, z2, hki, hlt, hrow, hrow0, hll, hB7, hB7i, hBL, hL7, hy, gy, wk1]) | ((first | refine AWp.ret ?_ | refine AWp.skip ?_ | refine AWp.exit ?_); try simp only [thenP]) | (with_reducible refine zq7 ?_; simp only [blockP, thenP, reduceIte]) | with_reducible refine zq8 ?_)
              refine LL.go ⟨1, hk1, by rw [hs, hprov]; simp; omega⟩ [0, 1] ⟨by rfl, by simp [], by simp [or_imp, forall_and, ] <;> (try (intro _hne; simp [_hne])), by decide⟩ ?_
              simp; omega
        · obtain ⟨L2, hq2⟩ : ∃ L2, Ls[k]? = some L2 := ⟨_, List.getElem?_eq_getElem (by omega)⟩
          have hrow2 : (listsD Ls)[k]? = some [intL L2] := by rw [listsD, List.getElem?_map, hq2]; rfl
          have hL72 := h7 k L2 hq2
          rw [if_neg (by omega), Nat.add_sub_cancel, getD_of hq2] at hprov
          have ch := refLeaves_c l hb.all hb.n2 L L2 hL7 hL72
          have hk0 : ¬ (k : Int) + 1 = 0 := by omega
          have w4 : IntKind.i64.wrap ((k : Int) + 1 + 1) = (k : Int) + 1 + 1 := wrap64_in (by omega)
          have hk2 : (0 : Int) < (k : Int) + 1 := by omega
          have hk3 : (0 : Int) ≤ (k : Int) + 1 := by omega
          have hk4 : (k : Int) + 1 < (Ls.length : Int) := hki
          have hk5 : k < Ls.length := by omega
          have hk6 : (k : Int) < (Ls.length : Int) := by omega
          have w3 : IntKind.i64.wrap (k : Int) = (k : Int) := wrap64_in (by omega)
          rcases hH : leavesB l L L2 <;> rw [hH] at ch hprov
          · have hr' := hno _ hprov rfl
            repeat (first | (with_reducible first | refine zq1 fun _ => ?_ | refine zq2 fun _ => ?_ | refine zq3 ?_) | ((first | refine zq4 ?_ | refine zq5 fun _ _ => ?_ | refine zq6 ?_); simp [-getElem?_pos, z0, z1, z2, hki, hlt, hrow, hrow2, hll, hk0, hk2, hk3, hk4, hk5, hk6, w3]) | ((first | refine AWp.ret ?_ | refine AWp.skip ?_ | refine AWp.exit ?_); try simp only [thenP]) | (with_reducible refine zq7 ?_; simp only [blockP, thenP, reduceIte]) | with_reducible refine zq8 ?_)
            (first | refine Exec0.call [] ch ?_ rfl ?_ ?_ | refine Exec.call [] ch ?_ rfl ?_ ?_); (focus simp [-getElem?_pos, hrow, hrow2, hki, hlt, hll, hk0, hk2, hk3, hk4, hk5, hk6, w3, hB7, hB7i, hBL, hL7, hy]); (focus simp [-getElem?_pos, z0, z1, z2, hrow, hrow2, hki, hlt, hll, hk0, hk2, hk3, hk4, hk5, hk6, w3, hB7, hB7i, hBL, hL7, hy]); simp [-getElem?_pos, z0, z1, z2, hrow, hrow2, hki, hlt, hll, hk0, hk2, hk3, hk4, hk5, hk6, w3, hB7, hB7i, hBL, hL7, hy]
            repeat (first | (with_reducible first | refine zq1 fun _ => ?_ | refine zq2 fun _ => ?_ | refine zq3 ?_) | ((first | refine zq4 ?_ | refine zq5 fun _ _ => ?_ | refine zq6 ?_); simp [-getElem?_pos, z0, z1, z2, hki, hlt, hrow, hrow2, hll]) | ((first | refine AWp.ret ?_ | refine AWp.skip ?_ | refine AWp.exit ?_); try simp only [thenP]) | (with_reducible refine zq7 ?_; simp only [blockP, thenP, reduceIte]) | with_reducible refine zq8 ?_)
            (first | refine RR.ret ?_ | refine RR.normal ?_); simp [hr']
          · by_cases gy : ed ≤ y
            · have hr' := hno _ hprov (by simp; omega)
              repeat (first | (with_reducible first | refine zq1 fun _ => ?_ | refine zq2 fun _ => ?_ | refine zq3 ?_) | ((first | refine zq4 ?_ | refine zq5 fun _ _ => ?_ | refine zq6 ?_); simp [-getElem?_pos, z0, z1, z2, hki, hlt, hrow, hrow2, hll, hk0, hk2, hk3, hk4, hk5, hk6, w3]) | ((first | refine AWp.ret ?_ | refine AWp.skip ?_ | refine AWp.exit ?_); try simp only [thenP]) | (with_reducible refine zq7 ?_; simp only [blockP, thenP, reduceIte]) | with_reducible refine zq8 ?_)
              (first | refine Exec0.call [] ch ?_ rfl ?_ ?_ | refine Exec.call [] ch ?_ rfl ?_ ?_); (focus simp [-getElem?_pos, hrow, hrow2, hki, hlt, hll, hk0, hk2, hk3, hk4, hk5, hk6, w3, hB7, hB7i, hBL, hL7, hy]); (focus simp [-getElem?_pos, z0, z1, z2, hrow, hrow2, hki, hlt, hll, hk0, hk2, hk3, hk4, hk5, hk6, w3, hB7, hB7i, hBL, hL7, hy]); simp [-getElem?_pos, z0, z1, z2, hrow, hrow2, hki, hlt, hll, hk0, hk2, hk3, hk4, hk5, hk6, w3, hB7, hB7i, hBL, hL7, hy]
              repeat (first | (with_reducible first | refine zq1 fun _ => ?_ | refine zq2 fun _ => ?_ | refine zq3 ?_) | ((first | refine zq4 ?_ | refine zq5 fun _ _ => ?_ | refine zq6 ?_); simp [-getElem?_pos, z0, z1, z2, hki, hlt, hrow, hrow2, hll, hB7, hB7i, hBL, hL7, hy, gy, hk3, hk4]) | ((first | refine AWp.ret ?_ | refine AWp.skip ?_ | refine AWp.exit ?_); try simp only [thenP]) | (with_reducible refine zq7 ?_; simp only [blockP, thenP, reduceIte]) | with_reducible refine zq8 ?_)
              (first | refine RR.ret ?_ | refine RR.normal ?_); simp [hr']
            · repeat (first | (with_reducible first | refine zq1 fun _ => ?_ | refine zq2 fun _ => ?_ | refine zq3 ?_) | ((first | refine zq4 ?_ | refine zq5 fun _ _ => ?_ | refine zq6 ?_); simp [-getElem?_pos, z0, z1, z2, hki, hlt, hrow, hrow2, hll, hk0, hk2, hk3, hk4, hk5, hk6, w3]) | ((first | refine AWp.ret ?_ | refine AWp.skip ?_ | refine AWp.exit ?_); try simp only [thenP]) | (with_reducible refine zq7 ?_; simp only [blockP, thenP, reduceIte]) | with_reducible refine zq8 ?_)
              (first | refine Exec0.call [] ch ?_ rfl ?_ ?_ | refine Exec.call [] ch ?_ rfl ?_ ?_); (focus simp [-getElem?_pos, hrow, hrow2, hki, hlt, hll, hk0, hk2, hk3, hk4, hk5, hk6, w3, hB7, hB7i, hBL, hL7, hy]); (focus simp [-getElem?_pos, z0, z1, z2, hrow, hrow2, hki, hlt, hll, hk0, hk2, hk3, hk4, hk5, hk6, w3, hB7, hB7i, hBL, hL7, hy]); simp [-getElem?_pos, z0, z1, z2, hrow, hrow2, hki, hlt, hll, hk0, hk2, hk3, hk4, hk5, hk6, w3, hB7, hB7i, hBL, hL7, hy]
              repeat (first | (with_reducible first | refine zq1 fun _ => ?_ | refine zq2 fun _ => ?_ | refine zq3 ?_) | ((first | refine zq4 ?_ | refine zq5 fun _ _ => ?_ | refine zq6 ?_); simp [-getElem?_pos, z0, z1, z2, hki, hlt, hrow, hrow2, hll, hB7, hB7i, hBL, hL7, hy, gy, w4, hk3, hk4]) | ((first | refine AWp.ret ?_ | refine AWp.skip ?_ | refine AWp.exit ?_); try simp only [thenP]) | (with_reducible refine zq7 ?_; simp only [blockP, thenP, reduceIte]) | with_reducible refine zq8 ?_)
              refine LL.go ⟨k + 1 + 1, hk1, by rw [hs, hprov]; simp; omega⟩ [0, 1] ⟨by rfl, by simp [], by simp [or_imp, forall_and, ] <;> (try (intro _hne; simp [_hne])), by decide⟩ ?_
              simp; omega
      · obtain rfl : k = Ls.length := by omega
        rw [if_pos hall2] at hr
        repeat (first | (with_reducible first | refine zq1 fun _ => ?_ | refine zq2 fun _ => ?_ | refine zq3 ?_) | ((first | refine zq4 ?_ | refine zq5 fun _ _ => ?_ | refine zq6 ?_); simp [-getElem?_pos, z0, z1, z2, hll]) | ((first | refine AWp.ret ?_ | refine AWp.skip ?_ | refine AWp.exit ?_); try simp only [thenP]) | (with_reducible refine zq7 ?_; simp only [blockP, thenP, reduceIte]) | with_reducible refine zq8 ?_)
        (first | refine RR.ret ?_ | refine RR.normal ?_); simp [hr]
  · have hr' : r = chkErr l [⟨ed, eb⟩, g] := by rw [hr, refChk, if_neg h0]
    rw [hr']
    generalize chkErr l [⟨ed, eb⟩, g] = er at *
    refine acallK tabOk Try.func29 rfl rfl (show 4 ≤ _ by decide) rfl fun _ => ?_; simp only [Try.ntmps29]
    repeat (first | (with_reducible first | refine zq1 fun _ => ?_ | refine zq2 fun _ => ?_ | refine zq3 ?_) | ((first | refine zq4 ?_ | refine zq5 fun _ _ => ?_ | refine zq6 ?_); simp [-getElem?_pos, z0, z1, z2, ]) | ((first | refine AWp.ret ?_ | refine AWp.skip ?_ | refine AWp.exit ?_); try simp only [thenP]) | (with_reducible refine zq7 ?_; simp only [blockP, thenP, reduceIte]) | with_reducible refine zq8 ?_)
    (first | refine Exec0.call [] ca ?_ rfl ?_ ?_ | refine Exec.call [] ca ?_ rfl ?_ ?_); (focus simp [-getElem?_pos, h0]); (focus simp [-getElem?_pos, z0, z1, z2, h0]); simp [-getElem?_pos, z0, z1, z2, h0]
    repeat (first | (with_reducible first | refine zq1 fun _ => ?_ | refine zq2 fun _ => ?_ | refine zq3 ?_) | ((first | refine zq4 ?_ | refine zq5 fun _ _ => ?_ | refine zq6 ?_); simp [-getElem?_pos, z0, z1, z2, h0]) | ((first | refine AWp.ret ?_ | refine AWp.skip ?_ | refine AWp.exit ?_); try simp only [thenP]) | (with_reducible refine zq7 ?_; simp only [blockP, thenP, reduceIte]) | with_reducible refine zq8 ?_)
    (first | refine Exec0.call [] ca ?_ rfl ?_ ?_ | refine Exec.call [] ca ?_ rfl ?_ ?_); (focus simp [-getElem?_pos, ]); (focus simp [-getElem?_pos, z0, z1, z2, ]); simp [-getElem?_pos, z0, z1, z2, ]
    repeat (first | (with_reducible first | refine zq1 fun _ => ?_ | refine zq2 fun _ => ?_ | refine zq3 ?_) | ((first | refine zq4 ?_ | refine zq5 fun _ _ => ?_ | refine zq6 ?_); simp [-getElem?_pos, z0, z1, z2, ]) | ((first | refine AWp.ret ?_ | refine AWp.skip ?_ | refine AWp.exit ?_); try simp only [thenP]) | (with_reducible refine zq7 ?_; simp only [blockP, thenP, reduceIte]) | with_reducible refine zq8 ?_)
    (first | refine RR.ret ?_ | refine RR.normal ?_); simp []
end Go.Proofs.Ytgiomfamlbmpcaa.Eng

noncomputable section
namespace Go.Proofs.Ytgiomfamlbmpcaa.Eng
open Go.RowKit
variable {P : Program} {T : Tab} {r : Option Nat} {ns n : Nat} {s : St}
def AppQ (n : Nat) (s : St) (dst : Option Nat) (e : TypeId) (ie : TI) (id off k cp : Nat) (cells : List SV) (row : List Dat) (n' : Nat) (s' : St) : Prop :=
  n' = n + 1 ∧ ((k + 1 ≤ cp ∧ s' = ⟨setSlot s.slots dst (.sl id off (k + 1) (some cp)), setMem s.mem id (some (.box e (splice cells (off + k * ie.size) (row.map .d)) false))⟩) ∨
    (∃ cp', k + 1 ≤ cp' ∧ s' = ⟨setSlot s.slots dst (.sl n 0 (k + 1) (some cp')), setMem s.mem n (some (.box e ((cells.drop off).take (k * ie.size) ++ row.map .d ++ zerosC ie ((cp' - (k + 1)) * ie.size)) false))⟩))
theorem Reps.append {E : Env} {w : World} {as1 bs : List SV} {us vs : List Value} (h : Reps E w as1 us) (k : Reps E w bs vs) : Reps E w (as1 ++ bs) (us ++ vs) := by
  refine ⟨by simp [h.1, k.1], fun c hc => ?_, fun j c v hc hv => ?_⟩
  · rcases List.mem_append.1 hc with hc | hc
    · exact h.2.1 c hc
    · exact k.2.1 c hc
  · have hl := h.1
    by_cases hj : j < as1.length
    · rw [List.getElem?_append_left hj] at hc
      rw [List.getElem?_append_left (by omega)] at hv
      exact h.2.2 j c v hc hv
    · rw [List.getElem?_append_right (by omega)] at hc
      rw [List.getElem?_append_right (by omega)] at hv
      rw [hl] at hv
      exact k.2.2 _ c v hc hv
theorem stepI_appendQ (hT : TabOk P T) {o : Oper} {x y : Operand} {t e : TypeId} {i ie : TI} (ho : o.op = .call { callee := .builtin .append, args := #[x, y], argTypes := #[t, t] }) (hi : T t = some i) (hk : i.kind = .slice e) (hie : T e = some ie)
    {id off k cp : Nat} {cells : List SV} {yv : SV} {row : List Dat} (hx : opd ns s x = some (.sl id off k (some cp))) (hm : s.mem id = some (.box e cells false)) (hle : off + cp * ie.size ≤ cells.length) (hkc : k ≤ cp) (hy : opd ns s y = some yv) (hsrc : srcRows s.mem ie.size yv = some [row]) (hf : fitsB (k + 1) ie.bytes = true) :
    StepI P r ns n s o (AppQ n s o.dst e ie id off k cp cells row) := by
  intro W0 R0 B E a w hin h hd K Q hK
  refine oper_in (fun c e => by rw [ho] at e; cases e) ?_
  have hu := slice_und (hT t i hi) hk
  obtain ⟨inf, z0, i1, i4, i2, i3, hzs, hz⟩ := zeros_reps (E := E) (w := w) hT hie
  obtain ⟨c2, c3⟩ := fitsB_iff.1 hf
  obtain ⟨A, c, news, src⟩ := srcRows_rep h.mem hsrc (h.opd hy)
  have hsz := (hT e ie hie).pos
  have hrow := src.rowlen row List.mem_cons_self
  have hnl : news.length = ie.size := by rw [src.len]; simp
  obtain ⟨ad, rfl⟩ : ∃ ad, A = some ad := by
    cases A with
    | none => have := src.nil rfl; cases this
    | some ad => exact ⟨ad, rfl⟩
  have hnews : Reps E w (row.map .d) news := by
    refine ⟨by simp [hnl, hrow], fun c hc => ?_, fun j c v hc hv => ?_⟩
    · obtain ⟨d, hd, rfl⟩ := List.mem_map.1 hc
      exact src.ones row List.mem_cons_self d hd
    · rw [List.getElem?_map, Option.map_eq_some_iff] at hc
      obtain ⟨d, hd, rfl⟩ := hc
      exact .d _ _ (src.rep 0 j row d v rfl hd (by simpa using hv))
  obtain ⟨u, hu'⟩ : ∃ u, a.eval x = u := ⟨_, rfl⟩
  have hrx := h.opd hx
  rw [hu'] at hrx
  cases hrx with
  | sl _ _ _ _ o0 cd hdm hcd hq hnd =>
  obtain rfl := (hq (.inr (.inr (by simp)))).symm
  have hcp := hcd (.inr (by simp))
  simp only [Option.getD_some] at hcp
  subst hcp
  have hro : ¬ E.ro (E.home id).blk := fun k => by have := (h.frz id _ hm).2 k; cases this
  have hkz : k * ie.size ≤ cd * ie.size := Nat.mul_le_mul_right _ hkc
  cases h.mem id _ hm with
  | box _ _ _ cur h1 h2 h3 h4 =>
  have hC : Reps E w cells cur.toList := ⟨by simpa using h2, h3, fun i c v hc hv => h4 i c v hc (by simpa using hv)⟩
  have hex : ∀ {v' : Value} {w' : World}, (Builtin.append_ #[t, t] o.type #[.slice (some ⟨(E.home id).blk, off, none⟩) k cd, a.eval y]).run P w = .ok v' w' → (execOp a.eval o).run P w = .ok (.value v') w' := fun {v' w'} hr => by
    simp only [execOp, ho, resolve, invoke, builtin, Sem.run_bind, Sem.run_pure, Result.andThen_ok, List.map_toArray, List.map_cons, List.map_nil, hu', hr]
  rw [src.val] at hex
  simp only [List.length_cons, List.length_nil, Nat.zero_add] at hex
  by_cases hroom : k + 1 ≤ cd
  · have hkz1 : (k + 1) * ie.size ≤ cd * ie.size := Nat.mul_le_mul_right _ hroom
    rw [Nat.add_mul, Nat.one_mul] at hkz1
    have hst := run_storeCells_at P (E.home id).blk (off + k * ie.size) e news 0 cur w h1 (by rw [hnl]; omega) hnews.ones
    simp only [Nat.add_zero] at hst
    have hfc := run_firstCells_some (P := P) w ie.size 1 ad 1 c news (by simp [hnl]) (src.cells ad rfl)
    have hrun : (Builtin.append_ #[t, t] o.type #[.slice (some ⟨(E.home id).blk, off, none⟩) k cd, .slice (some ad) 1 c]).run P w = .ok (.slice (some ⟨(E.home id).blk, off, none⟩) (k + 1) cd) (w.setRow (E.home id).blk (cur.toList.take (off + k * ie.size) ++ news ++ cur.toList.drop (off + k * ie.size + news.length)).toArray) := by
      simp [Builtin.append_, run_underlying hu, sizeOf, typeInfo, i1, Builtin.lenOf, hroom, hfc, Addr.add_lit, i2, hst]
    have he := hex hrun
    have hw : ∀ b, E.ro b → (w.setRow (E.home id).blk (cur.toList.take (off + k * ie.size) ++ news ++ cur.toList.drop (off + k * ie.size + news.length)).toArray).heap[b]? = w.heap[b]? := fun b hb => setRow_other _ _ _ _ (fun e => hro (e ▸ hb))
    have hS := (hC.keep (Env.le.refl E) hw).splice (hnews.keep (Env.le.refl E) hw) (off + k * ie.size) (by simp [hrow]; omega) (cur.toList.take (off + k * ie.size) ++ news ++ cur.toList.drop (off + k * ie.size + news.length)).toArray (by simp [hnl]; omega) fun j => by
      rw [splice_at cur news (off + k * ie.size) (by rw [hnl]; omega)]
      by_cases q1 : off + k * ie.size ≤ j ∧ j < off + k * ie.size + news.length
      · rw [if_pos q1, if_pos ⟨q1.1, q1.2, by rw [hnl] at q1; simp; omega⟩]
      · rw [if_neg q1, if_neg (fun q' => q1 ⟨q'.1, q'.2.1⟩)]; simp
    have h6 : Sim W0 R0 ns (· < n) ⟨s.slots, setMem s.mem id (some (.box e (splice cells (off + k * ie.size) (row.map .d)) false))⟩ E a (w.setRow (E.home id).blk (cur.toList.take (off + k * ie.size) ++ news ++ cur.toList.drop (off + k * ie.size + news.length)).toArray) :=
      h.write hm rfl rfl (grown_setRow _ _ _) (.box e _ _ _ (setRow_heap _ _ _ _ _ _ h1) (by simpa using hS.1) hS.2.1 fun i c v hc hv => hS.2.2 i c v hc (by simpa using hv))
    unfold Oper.wp
    rw [he]
    refine hK (n + 1) _ E _ _ ⟨rfl, .inl ⟨hroom, rfl⟩⟩ ((h6.put hd ?_).weak fun i hi => by omega)
    exact .sl id off (k + 1) (some cd) off cd hdm (fun _ => rfl) (fun _ => rfl) hroom
  · let olds : List Value := (cur.toList.drop off).take (k * ie.size)
    have hol : olds.length = k * ie.size := by simp [olds]; omega
    have hO : Reps E w ((cells.drop off).take (k * ie.size)) olds := hC.sub off (k * ie.size)
    have hcell : ∀ (j : Nat) v, olds[j]? = some v → w.cell? ((⟨(E.home id).blk, off, none⟩ : Addr).add j) = some v := fun j v hv => by
      simp only [olds, List.getElem?_take] at hv
      split at hv
      · rw [Addr.add_lit, cell_of_row w _ _ cur e (0, 0) h1]
        rw [List.getElem?_drop] at hv
        simpa using hv
      · cases hv
    have hrun := run_append_grow (P := P) w t o.type e inf z0 hu i1 i4 ⟨(E.home id).blk, off, none⟩ k cd olds (by rw [i2]; exact hol) hcell ad 1 c news (by rw [i2]; simp [hnl]) (src.cells ad rfl) (by omega) (by have : k + 1 ≤ maxLen := c3; simp only [maxLen] at this; omega) (growslice_fits (by omega) (by rw [i3]; exact c2))
    have he := hex hrun
    have hge := grownCap_ge w (k + 1) cd e
    generalize grownCap w (k + 1) cd e = cp' at *
    have hw0 : Below w.heap.size w (w.drew.alloc (.cells (olds.toArray ++ news.toArray ++ Builtin.zeroCells z0.cells (cp' - (k + 1))) e)) := ⟨rfl, rfl, rfl, by simp, fun b hb => heap_alloc_old w.drew _ hb⟩
    have hro2 : ∀ b, E.ro b → (w.drew.alloc (.cells (olds.toArray ++ news.toArray ++ Builtin.zeroCells z0.cells (cp' - (k + 1))) e)).heap[b]? = w.heap[b]? := fun b hb => hw0.block b (h.rlt b hb)
    have hzc : Builtin.zeroCells z0.cells (cp' - (k + 1)) = madeCells z0.cells ((cp' - (k + 1)) * ie.size) := by unfold Builtin.zeroCells madeCells; rw [hzs]
    have hid : ¬ E.dom n := fun hk => Nat.lt_irrefl _ (h.dom n hk)
    have hE := E.le_add n ⟨w.heap.size, cp', ie.size⟩ hid
    have hall := ((hO.append hnews).append (hz ((cp' - (k + 1)) * ie.size))).keep hE hro2
    have h6 := h.new (w' := w.drew.alloc (.cells (olds.toArray ++ news.toArray ++ Builtin.zeroCells z0.cells (cp' - (k + 1))) e)) (i := n) (by omega) (.box e ((cells.drop off).take (k * ie.size) ++ row.map .d ++ zerosC ie ((cp' - (k + 1)) * ie.size)) false) ⟨w.heap.size, cp', ie.size⟩ (h.kept hw0) hro2 (fun k c hk => hw0.block _ (h.mem k c hk).lt)
      (.box e _ _ (olds.toArray ++ news.toArray ++ Builtin.zeroCells z0.cells (cp' - (k + 1))) (heap_alloc_new w.drew _) (by rw [hzc]; have := hall.1; simp only [List.length_append, Array.length_toList] at this; simp only [Array.size_append, List.size_toArray, List.length_append]; omega) hall.2.1 fun j c v hc hv => hall.2.2 j c v hc (by rw [hzc, ← Array.getElem?_toList] at hv; simpa using hv))
      (h.fresh (Nat.le_refl _)) rfl (fun hk => Nat.lt_irrefl _ (h.rlt _ hk)) (fun k c hk e => Nat.lt_irrefl _ (e ▸ (h.mem k c hk).lt))
    unfold Oper.wp
    rw [he]
    refine hK (n + 1) _ (E.add n ⟨w.heap.size, cp', ie.size⟩) _ _ ⟨rfl, .inr ⟨cp', hge, rfl⟩⟩ ((h6.put hd ?_).weak fun i hi => by rcases hi with h | h <;> omega)
    have := Rep.slN (E := E.add n ⟨w.heap.size, cp', ie.size⟩) (w := w.drew.alloc (.cells (olds.toArray ++ news.toArray ++ Builtin.zeroCells z0.cells (cp' - (k + 1))) e)) n 0 (k + 1) (some cp') cp' (.inl rfl) rfl hge
    simpa [Env.add] using this
theorem ExecS.appendQ (hT : TabOk P T) {ops : Array Oper} {o : Oper} {lo : List Oper} {Q : Nat → St → Prop} {c : Call} {x y : Operand} {t e : TypeId} {i ie : TI} (ho : o.op = .call c) (hc1 : c.callee = .builtin .append) (hc2 : c.args.toList = [x, y]) (hc3 : c.argTypes.toList = [t, t]) (hg : guardS ops ns s o = some true) (hi : T t = some i) (hk : i.kind = .slice e) (hie : T e = some ie)
    {id off k cp : Nat} {cells : List SV} {yv : SV} {row : List Dat} (hx : opd ns s x = some (.sl id off k (some cp))) (hm : s.mem id = some (.box e cells false)) (hle : off + cp * ie.size ≤ cells.length) (hkc : k ≤ cp) (hy : opd ns s y = some yv) (hsrc : srcRows s.mem ie.size yv = some [row]) (hf : fitsB (k + 1) ie.bytes = true)
    (h : ∀ n' s', AppQ n s o.dst e ie id off k cp cells row n' s' → ExecS P r ns ops n' lo s' Q) : ExecS P r ns ops n (o :: lo) s Q :=
  ⟨hg, _, stepI_appendQ hT (by rw [call_eq hc1 hc2 hc3] at ho; exact ho) hi hk hie hx hm hle hkc hy hsrc hf, h⟩
theorem stepI_rest (hT : TabOk P T) {o : Oper} {x y : Operand} {t e : TypeId} {i ie : TI} {kd : IntKind} {id off k cp lo : Nat} (ho : o.op = .slice t x (some y) none none) (hi : T t = some i) (hk : i.kind = .slice e) (hie : T e = some ie) (hx : opd ns s x = some (.sl id off k (some cp))) (hy : opd ns s y = some (.d (.val (.int kd lo)))) (hl : lo ≤ k) (hkc : k ≤ cp) :
    StepI P r ns n s o fun n' s' => n' = n ∧ s' = ⟨setSlot s.slots o.dst (.sl id (if cp = lo then off else off + lo * ie.size) (k - lo) (some (cp - lo))), s.mem⟩ := by
  intro W0 R0 B E a w hin h hd K Q hK
  refine oper_in (fun c e => by rw [ho] at e; cases e) ?_
  have hr := h.opd hx
  have hyv := rep_int (h.opd hy)
  have hc : sliceC T i (.sl id off k (some cp)) (some (lo : Int)) none none = some (.sl id (if cp = lo then off else off + lo * ie.size) (k - lo) (some (cp - lo))) := by
    have h1 : (lo : Int) ≤ k := by omega
    have h2 : (k : Int) ≤ cp := by omega
    have h3 : ((cp : Int) = lo) = (cp = lo) := by simp [Int.natCast_inj]
    simp [sliceC, hk, hie, h1, h2, h3]
  obtain ⟨z, h1, h2⟩ := sliceC_run (w := w) hT hi (Bd.some kd lo) Bd.none Bd.none hc hr
  unfold Oper.wp
  have he : (execOp a.eval o).run P w = .ok (.value z) w := by
    simp only [execOp, ho, Sem.run_bind]
    simp [hyv, h1]
  rw [he]
  exact hK n _ E _ w ⟨rfl, rfl⟩ (h.put hd h2)
theorem ExecS.rest (hT : TabOk P T) {ops : Array Oper} {o : Oper} {lo : List Oper} {Q : Nat → St → Prop} {x y : Operand} {t e : TypeId} {i ie : TI} {kd : IntKind} {id off k cp l : Nat} (ho : o.op = .slice t x (some y) none none) (hg : guardS ops ns s o = some true) (hi : T t = some i) (hk : i.kind = .slice e) (hie : T e = some ie) (hx : opd ns s x = some (.sl id off k (some cp))) (hy : opd ns s y = some (.d (.val (.int kd l)))) (hl : l ≤ k) (hkc : k ≤ cp)
    (h : ExecS P r ns ops n lo ⟨setSlot s.slots o.dst (.sl id (if cp = l then off else off + l * ie.size) (k - l) (some (cp - l))), s.mem⟩ Q) : ExecS P r ns ops n (o :: lo) s Q :=
  ⟨hg, _, stepI_rest hT ho hi hk hie hx hy hl hkc, fun n' s' ⟨e1, e2⟩ => by rw [e1, e2]; exact h⟩
theorem ExecS.index (hT : TabOk P T) {ops : Array Oper} {o : Oper} {lo : List Oper} {Q : Nat → St → Prop} {x y : Operand} {t e : TypeId} {i ie : TI} {kd : IntKind} {id off k j : Nat} {c : Option Nat} (ho : o.op = .indexAddr t x y) (hg : guardS ops ns s o = some true) (hi : T t = some i) (hk : i.kind = .slice e) (hie : T e = some ie) (hx : opd ns s x = some (.sl id off k c)) (hy : opd ns s y = some (.d (.val (.int kd j)))) (hj : j < k)
    (h : ExecS P r ns ops n lo ⟨setSlot s.slots o.dst (.ptr id 0 (off + j * ie.size)), s.mem⟩ Q) : ExecS P r ns ops n (o :: lo) s Q :=
  ⟨hg, fun n' s' => n' = n ∧ s' = ⟨setSlot s.slots o.dst (.ptr id 0 (off + j * ie.size)), s.mem⟩, fun W0 R0 B E a w hin hs hd K Q' hK => by
    have hr := hs.opd hx
    have hyv := rep_int (hs.opd hy)
    have hc : indexC T i (j : Int) (.sl id off k c) = some (.ptr id 0 (off + j * ie.size)) := by
      have h1 : (j : Int) < k := by omega
      simp [indexC, hk, hie, h1]
    obtain ⟨z, h1, h2⟩ := indexC_run (w := w) hT hi (ik := kd) hc hr
    refine oper_in (fun c e => by rw [ho] at e; cases e) ?_
    unfold Oper.wp
    have he : (execOp a.eval o).run P w = .ok (.value z) w := by
      simp only [execOp, ho, Sem.run_bind]
      simp [hyv, h1]
    rw [he]
    exact hK n _ E _ w ⟨rfl, rfl⟩ (hs.put hd h2), fun n' s' ⟨e1, e2⟩ => by rw [e1, e2]; exact h⟩
theorem ExecS.len (hT : TabOk P T) {ops : Array Oper} {o : Oper} {lo : List Oper} {Q : Nat → St → Prop} {cl : Call} {x : Operand} {t e : TypeId} {i : TI} {id off k : Nat} {c : Option Nat} (ho : o.op = .call cl) (hc1 : cl.callee = .builtin .len) (hc2 : cl.args.toList = [x]) (hc3 : cl.argTypes.toList = [t]) (hg : guardS ops ns s o = some true) (hi : T t = some i) (hk : i.kind = .slice e) (hx : opd ns s x = some (.sl id off k c))
    (h : ExecS P r ns ops n lo ⟨setSlot s.slots o.dst (.d (.val (.int .i64 k))), s.mem⟩ Q) : ExecS P r ns ops n (o :: lo) s Q :=
  ⟨hg, fun n' s' => n' = n ∧ s' = ⟨setSlot s.slots o.dst (.d (.val (.int .i64 k))), s.mem⟩, fun W0 R0 B E a w hin hs hd K Q' hK => by
    rw [call_eq hc1 hc2 hc3] at ho
    have hu := slice_und (hT t i hi) hk
    obtain ⟨u, hu'⟩ : ∃ u, a.eval x = u := ⟨_, rfl⟩
    have hr := hs.opd hx
    rw [hu'] at hr
    cases hr with
    | sl _ _ _ _ q0 cd hdm hcd hq hnd =>
    refine oper_in (fun c e => by rw [ho] at e; cases e) ?_
    unfold Oper.wp
    have he : (execOp a.eval o).run P w = .ok (.value (goInt k)) w := by
      simp [execOp, ho, resolve, invoke, builtin, hu', Builtin.len_, run_underlying hu]
    rw [he]
    exact hK n _ E _ w ⟨rfl, rfl⟩ (hs.put hd (rep_val rfl)), fun n' s' ⟨e1, e2⟩ => by rw [e1, e2]; exact h⟩
theorem ExecS.lit (hT : TabOk P T) {ops : Array Oper} {o : Oper} {lo : List Oper} {Q : Nat → St → Prop} {t e : TypeId} {len : Nat} {ps : Array (Nat × Operand)} (ho : o.op = .buildSlice t len ps) (hg : guardS ops ns s o = some true) {i ie : TI} (hi : T t = some i) (hk : i.kind = .slice e) (hie : T e = some ie)
    {l : List (Nat × SV)} (hev : evParts (opd ns s) ps.toList = some l) {cells : List SV} (hr : fillSV (fun k => some (k * ie.size, ie.size)) (zerosC ie (len * ie.size)) l = some cells) (h2 : len * ie.size ≤ 16777216)
    (h : ExecS P r ns ops (n + 1) lo ⟨setSlot s.slots o.dst (.sl n 0 len (some len)), setMem s.mem n (some (.box e cells false))⟩ Q) : ExecS P r ns ops n (o :: lo) s Q :=
  ⟨hg, fun n' s' => n' = n + 1 ∧ s' = ⟨setSlot s.slots o.dst (.sl n 0 len (some len)), setMem s.mem n (some (.box e cells false))⟩, fun W0 R0 B E a w hin hs hd K Q' hK => by
    have hu := slice_und (hT t i hi) hk
    obtain ⟨inf, z0, i1, i4, i2, i3, hzs, hz⟩ := zeros_reps (E := E) (w := w) hT hie
    obtain ⟨p1, p2⟩ := evParts_rep (w := w) (E := E) (ev := opd ns s) (ρ := a.eval) (fun x v hx => hs.opd hx) hev
    obtain ⟨C, b1, b2⟩ := fill_run (E := E) (w := w) (pl := fun k => some (k * ie.size, ie.size)) (place := fun k => some (k * ie.size, ie.size)) (fun k x hx => hx) l (ps.toList.map fun (i, x) => (i, a.eval x)) _ cells (madeCells z0.cells (len * ie.size)) (by simpa using p1) p2 (hz _) hr
    have hsz : (Go.sizeOf e).run P w = .ok ie.size w := (hT e ie hie).sizeOf w
    have hzv : (zeroValue e).run P w = .ok z0 w := by simp [zeroValue, typeInfo, i1, i4]
    have hrun : (Instr.buildSlice t len (ps.map fun (i, x) => (i, a.eval x))).run P w = .ok (.slice (some ⟨w.heap.size, 0, none⟩) len len) (w.alloc (.cells C e)) := by
      unfold Instr.buildSlice
      simp only [Sem.run_bind, run_underlying hu, Result.andThen_ok, hsz]
      rw [if_neg (by omega)]
      unfold madeCells at b1
      by_cases hn : len * ie.size = 0
      · rw [hn] at b1
        simp only [Array.range_zero', Array.map_empty] at b1
        simp [hn, newRow, Array.range_zero', b1]
      · simp [hn, hzv, b1, newRow]
    have hb : Below w.heap.size w (w.alloc (.cells C e)) := (Below.refl _ _).alloc (Nat.le_refl _) _
    have hro : ∀ b, E.ro b → (w.alloc (.cells C e)).heap[b]? = w.heap[b]? := fun b hb' => hb.block b (hs.rlt b hb')
    have hid : ¬ E.dom n := fun hk => Nat.lt_irrefl _ (hs.dom n hk)
    have hE := E.le_add n ⟨w.heap.size, len, ie.size⟩ hid
    have hall := b2.keep hE hro
    have h6 := hs.new (w' := w.alloc (.cells C e)) (i := n) (by omega) (.box e cells false) ⟨w.heap.size, len, ie.size⟩ (hs.kept hb) hro (fun k c hk => hb.block _ (hs.mem k c hk).lt)
      (.box e _ _ C (heap_alloc_new w _) (by have := hall.1; simpa using this) hall.2.1 fun j c v hc hv => hall.2.2 j c v hc (by simpa using hv))
      (hs.fresh (Nat.le_refl _)) rfl (fun hk => Nat.lt_irrefl _ (hs.rlt _ hk)) (fun k c hk e => Nat.lt_irrefl _ (e ▸ (hs.mem k c hk).lt))
    refine oper_in (fun c e => by rw [ho] at e; cases e) ?_
    unfold Oper.wp
    have he : (execOp a.eval o).run P w = .ok (.value (.slice (some ⟨w.heap.size, 0, none⟩) len len)) (w.alloc (.cells C e)) := by
      simp only [execOp, ho, Sem.run_bind, hrun, Result.andThen_ok]
      rfl
    rw [he]
    refine hK (n + 1) _ (E.add n ⟨w.heap.size, len, ie.size⟩) _ _ ⟨rfl, rfl⟩ ((h6.put hd ?_).weak fun i hi => by rcases hi with h | h <;> omega)
    have := Rep.slN (E := E.add n ⟨w.heap.size, len, ie.size⟩) (w := w.alloc (.cells C e)) n 0 len (some len) len (.inl rfl) rfl (Nat.le_refl _)
    simpa [Env.add] using this, fun n' s' ⟨e1, e2⟩ => by rw [e1, e2]; exact h⟩
end Go.Proofs.Ytgiomfamlbmpcaa.Eng

namespace Go.Proofs.Ytgiomfamlbmpcaa.Eng
open Go.RowKit
variable {P : Program} {T : Tab} {r : Option Nat} {ns n : Nat} {s : St}
abbrev mapB (i : MapI) (es : List (List Int × SV × Nat)) (clock : Nat) : Blk := .map (es.map fun q => (keyVal i.agg i.kk q.1, q.2)) clock false
theorem stepI_delete {M : MTab} (hM : MTabOk P M) {o : Oper} {x y : Operand} {t t' : TypeId} (ho : o.op = .call { callee := .builtin .delete, args := #[x, y], argTypes := #[t, t'] }) {i : MapI} (hi : M t = some i) {id clock : Nat} {es : List (List Int × SV × Nat)} {kv : SV} {l : List Int} {j : Nat}
    (hx : opd ns s x = some (.mp id)) (hm : s.mem id = some (mapB i es clock)) (hy : opd ns s y = some kv) (hl : keyOf i kv = some l) (hlen : es.all (fun q => q.1.length == i.kk.length) = true) (hj : findK l (es.map (·.1)) 0 = some j) :
    StepI P r ns n s o fun n' s' => n' = n ∧ s' = { slots := setSlot s.slots o.dst (.tup []), mem := setMem s.mem id (some (mapB i (es.eraseIdx j) clock)) } := by
  intro W0 R0 B E a w hin h hd K Q hK
  refine oper_in (fun c e => by rw [ho] at e; cases e) ?_
  have H := hM t i hi
  obtain ⟨u, hu⟩ : ∃ u, a.eval x = u := ⟨_, rfl⟩
  have hr := h.opd hx
  rw [hu] at hr
  obtain ⟨e1, e2⟩ := keyOf_spec H.one hl (h.opd hy)
  cases hr with
  | mp _ hdm =>
    have Hb := h.mem id _ hm
    cases Hb with
    | map _ _ _ ents h1 h2 h3 =>
      rw [List.length_map] at h2
      have h4 : ∀ (j : Nat) q e, es[j]? = some q → ents[j]? = some e → e.key = keyVal i.agg i.kk q.1 ∧ e.born = q.2.2 ∧ Rep E w q.2.1 e.val := fun j q e hq he => h3 j (keyVal i.agg i.kk q.1, q.2) e (by rw [List.getElem?_map, hq]; rfl) he
      have hks : ents.toList.map (·.key) = (es.map (·.1)).map (keyVal i.agg i.kk) := by
        apply List.ext_getElem?
        intro j
        simp only [List.getElem?_map, Array.getElem?_toList]
        by_cases hj : j < es.length
        · rw [List.getElem?_eq_getElem hj, Array.getElem?_eq_getElem (show j < ents.size by omega)]
          simp only [Option.map_some]
          rw [(h4 j _ _ (List.getElem?_eq_getElem hj) (Array.getElem?_eq_getElem (show j < ents.size by omega))).1]
        · rw [List.getElem?_eq_none (by omega), Array.getElem?_eq_none (by omega)]
          rfl
      have hf := H.find w l ents.toList (es.map (·.1)) e2 (fun q hq => by
        obtain ⟨p, hp, rfl⟩ := List.mem_map.1 hq
        simpa using List.all_eq_true.1 hlen p hp) hks
      obtain ⟨b, hb1, hb2⟩ := findK_lt _ hj
      rw [List.getElem?_map, Option.map_eq_some_iff] at hb1
      obtain ⟨q, hq, hqb⟩ := hb1
      have hjl : j < ents.size := by have := (List.getElem?_eq_some_iff.1 hq).1; omega
      rw [hj] at hf
      simp only [Option.bind_some, Array.getElem?_toList, Array.getElem?_eq_getElem hjl, Option.map_some] at hf
      have hset : ∀ (es' : Array MapEntry) (c' : Nat), (setObj (E.home id).blk (.map es' c')).run P w = .ok () (w.putObj (E.home id).blk (.map es' c')) := fun es' c' => MapKept.run_setObj_map _ h1
      have hel : (ents.eraseIdxIfInBounds j).toList = ents.toList.eraseIdx j := by simp [Array.eraseIdxIfInBounds, hjl]
      have hrun : (execOp a.eval o).run P w = .ok (.value (.tuple #[])) (w.putObj (E.home id).blk (.map (ents.eraseIdxIfInBounds j) clock)) := by
        have h0 : (Builtin.delete_ #[t, t'] o.type #[.map (some (E.home id).blk), a.eval y]).run P w = .ok (.tuple #[]) (w.putObj (E.home id).blk (.map (ents.eraseIdxIfInBounds j) clock)) := by
          simp [e1, Builtin.delete_, run_underlying H.und, MapKept.run_getObj_map h1, H.check _ w l e2, hf, hset]
        simp only [execOp, ho, resolve, invoke, builtin, Sem.run_bind, Sem.run_pure, Result.andThen_ok, List.map_toArray, List.map_cons, List.map_nil, hu, h0]
      unfold Oper.wp
      rw [hrun]
      have hlt2 : (E.home id).blk < w.heap.size := (Array.getElem?_eq_some_iff.1 h1).1
      have hg : w.grownBy (w.putObj (E.home id).blk (.map (ents.eraseIdxIfInBounds j) clock)) (some (E.home id).blk) :=
        ⟨rfl, rfl, rfl, by simp [World.putObj], fun k hk hne => by
          simp only [World.putObj]
          rw [Array.getElem?_setIfInBounds_ne (fun e => hne (by rw [e]))]⟩
      have hself : (w.putObj (E.home id).blk (.map (ents.eraseIdxIfInBounds j) clock)).heap[(E.home id).blk]? = some (.map (ents.eraseIdxIfInBounds j) clock) := by
        simp [World.putObj, hlt2]
      have hrw : ∀ b, E.ro b → (w.putObj (E.home id).blk (.map (ents.eraseIdxIfInBounds j) clock)).heap[b]? = w.heap[b]? := fun b hb => hg.block b (h.rlt b hb) fun e => by
        have := (h.frz id _ hm).2 (Option.some.inj e ▸ hb)
        simp [Blk.frz] at this
      have key := h.write (b' := mapB i (es.eraseIdx j) clock) hm rfl rfl hg (.map _ _ _ (ents.eraseIdxIfInBounds j) hself (by
        rw [List.length_map, ← Array.length_toList, hel, List.length_eraseIdx, List.length_eraseIdx, Array.length_toList, h2]) fun k p e hp hpe => by
        rw [List.getElem?_map, Option.map_eq_some_iff] at hp
        obtain ⟨p', hp', rfl⟩ := hp
        rw [← Array.getElem?_toList, hel] at hpe
        rw [List.getElem?_eraseIdx] at hp' hpe
        have fin : ∀ k, es[k]? = some p' → ents.toList[k]? = some e → e.key = keyVal i.agg i.kk p'.1 ∧ e.born = p'.2.2 ∧ Rep E (w.putObj (E.home id).blk (.map (ents.eraseIdxIfInBounds j) clock)) p'.2.1 e.val := fun k a1 a2 => by
          obtain ⟨k1, k2, k3⟩ := h4 k p' e a1 (by rw [← Array.getElem?_toList]; exact a2)
          exact ⟨k1, k2, k3.keep (Env.le.refl E) hrw⟩
        by_cases hk : k < j
        · rw [if_pos hk] at hp' hpe
          exact fin k hp' hpe
        · rw [if_neg hk] at hp' hpe
          exact fin (k + 1) hp' hpe)
      exact hK n _ E _ _ ⟨rfl, rfl⟩ (key.put hd (.tup [] #[] rfl (by simp)))
end Go.Proofs.Ytgiomfamlbmpcaa.Eng

noncomputable section
namespace Go.Proofs.Ytgiomfamlbmpcaa.Eng
open Go.RowKit
variable {P : Program} {T : Tab} {r : Option Nat} {ns n : Nat} {s : St}
theorem map_keys {E : Env} {w : World} {i : MapI} {es : List (List Int × SV × Nat)} {ents : Array MapEntry} (h2 : ents.size = es.length) (h4 : ∀ (j : Nat) q e, es[j]? = some q → ents[j]? = some e → e.key = keyVal i.agg i.kk q.1 ∧ e.born = q.2.2 ∧ Rep E w q.2.1 e.val) : ents.toList.map (·.key) = (es.map (·.1)).map (keyVal i.agg i.kk) := by
  apply List.ext_getElem?
  intro j
  simp only [List.getElem?_map, Array.getElem?_toList]
  by_cases hj : j < es.length
  · rw [List.getElem?_eq_getElem hj, Array.getElem?_eq_getElem (show j < ents.size by omega)]
    simp only [Option.map_some]
    rw [(h4 j _ _ (List.getElem?_eq_getElem hj) (Array.getElem?_eq_getElem (show j < ents.size by omega))).1]
  · rw [List.getElem?_eq_none (by omega), Array.getElem?_eq_none (by omega)]
    rfl
def lookV (i : MapI) (es : List (List Int × SV × Nat)) (l : List Int) (ok : Bool) : SV := match (findK l (es.map (·.1)) 0).bind fun j => es[j]? with
  | some q => if ok then .tup [q.2.1, .d (.val (.bool true))] else q.2.1
  | none => if ok then .tup [i.zero, .d (.val (.bool false))] else i.zero
theorem stepI_lookup {M : MTab} (hM : MTabOk P M) {o : Oper} {x y : Operand} {t : TypeId} {ok : Bool} (ho : o.op = .lookup t x y ok) {i : MapI} (hi : M t = some i) {id clock : Nat} {es : List (List Int × SV × Nat)} {kv : SV} {l : List Int}
    (hx : opd ns s x = some (.mp id)) (hm : s.mem id = some (mapB i es clock)) (hy : opd ns s y = some kv) (hl : keyOf i kv = some l) (hlen : es.all (fun q => q.1.length == i.kk.length) = true) :
    StepI P r ns n s o fun n' s' => n' = n ∧ s' = { slots := setSlot s.slots o.dst (lookV i es l ok), mem := s.mem } := by
  intro W0 R0 B E a w hin h hd K Q hK
  refine oper_in (fun c e => by rw [ho] at e; cases e) ?_
  have H := hM t i hi
  obtain ⟨u, hu⟩ : ∃ u, a.eval x = u := ⟨_, rfl⟩
  have hr := h.opd hx
  rw [hu] at hr
  obtain ⟨e1, e2⟩ := keyOf_spec H.one hl (h.opd hy)
  cases hr with
  | mp _ hdm =>
    have Hb := h.mem id _ hm
    cases Hb with
    | map _ _ _ ents h1 h2 h3 =>
      rw [List.length_map] at h2
      have h4 : ∀ (j : Nat) q e, es[j]? = some q → ents[j]? = some e → e.key = keyVal i.agg i.kk q.1 ∧ e.born = q.2.2 ∧ Rep E w q.2.1 e.val := fun j q e hq he => h3 j (keyVal i.agg i.kk q.1, q.2) e (by rw [List.getElem?_map, hq]; rfl) he
      have hks := map_keys h2 h4
      have hf := H.find w l ents.toList (es.map (·.1)) e2 (fun q hq => by
        obtain ⟨p, hp, rfl⟩ := List.mem_map.1 hq
        simpa using List.all_eq_true.1 hlen p hp) hks
      obtain ⟨z, hz1, hz2⟩ := H.zero
      obtain ⟨v, hv1, hv2⟩ : ∃ v, (Instr.lookup t (.map (some (E.home id).blk)) (a.eval y) ok).run P w = .ok v w ∧ Rep E w (lookV i es l ok) v := by
        unfold lookV
        rw [e1]
        cases hq : (findK l (es.map (·.1)) 0).bind fun j => es[j]? with
        | some q =>
          have hq0 := hq
          rw [Option.bind_eq_some_iff] at hq
          obtain ⟨j, hj, hq⟩ := hq
          have hjl : j < ents.size := by have := (List.getElem?_eq_some_iff.1 hq).1; omega
          have he := h4 j q _ hq (Array.getElem?_eq_getElem hjl)
          rw [hj] at hf
          simp only [Option.bind_some, Array.getElem?_toList, Array.getElem?_eq_getElem hjl, Option.map_some] at hf
          refine ⟨if ok then .tuple #[ents[j].val, .bool true] else ents[j].val, ?_, ?_⟩
          · simp [Instr.lookup, run_underlying H.und, MapKept.run_getObj_map h1, H.check _ w l e2, hf]
          · cases ok with
            | true => exact tup2 he.2.2 (rep_val rfl)
            | false => exact he.2.2
        | none =>
          have hf2 : (Instr.findKey i.key (keyVal i.agg i.kk l) ents.toList).run P w = .ok none w := by
            rw [hf]
            congr 1
            cases hj : findK l (es.map (·.1)) 0 with
            | none => rfl
            | some j =>
              rw [hj] at hq
              simp only [Option.bind_some] at hq
              have : es.length ≤ j := by simpa using hq
              simp only [Option.bind_some, Array.getElem?_toList, Array.getElem?_eq_none (show ents.size ≤ j by omega), Option.map_none]
          refine ⟨if ok then .tuple #[z, .bool false] else z, ?_, ?_⟩
          · simp [Instr.lookup, run_underlying H.und, MapKept.run_getObj_map h1, H.check _ w l e2, hf2, hz1 w]
          · cases ok with
            | true => exact tup2 (hz2 E w) (rep_val rfl)
            | false => exact hz2 E w
      have he : (execOp a.eval o).run P w = .ok (.value v) w := by
        simp [execOp, ho, hu, hv1]
      unfold Oper.wp
      rw [he]
      exact hK n _ E _ _ ⟨rfl, rfl⟩ (h.put hd hv2)
theorem insert_run {M : MTab} (hM : MTabOk P M) {W0 : Fix} {R0 D : Nat → Prop} {E : Env} {a : Act} {w : World} (h : Sim W0 R0 ns D s E a w) {o : Oper} {x y z : Operand} {t : TypeId} (ho : o.op = .mapUpdate t x y z ∨ o.op = .insert t x y z) {i : MapI} (hi : M t = some i) {id clock : Nat} {es : List (List Int × SV × Nat)} {kv vv : SV} {l : List Int}
    (hx : opd ns s x = some (.mp id)) (hm : s.mem id = some (mapB i es clock)) (hy : opd ns s y = some kv) (hl : keyOf i kv = some l) (hlen : es.all (fun q => q.1.length == i.kk.length) = true) (hj : findK l (es.map (·.1)) 0 = none) (hz : opd ns s z = some vv) :
    ∃ w', (execOp a.eval o).run P w = .ok .skip w' ∧ Sim W0 R0 ns D ⟨s.slots, setMem s.mem id (some (mapB i (es ++ [(l, vv, clock)]) (clock + 1)))⟩ E a w' := by
  have H := hM t i hi
  obtain ⟨u, hu⟩ : ∃ u, a.eval x = u := ⟨_, rfl⟩
  have hr := h.opd hx
  rw [hu] at hr
  obtain ⟨e1, e2⟩ := keyOf_spec H.one hl (h.opd hy)
  have hzv := h.opd hz
  cases hr with
  | mp _ hdm =>
    have Hb := h.mem id _ hm
    cases Hb with
    | map _ _ _ ents h1 h2 h3 =>
      rw [List.length_map] at h2
      have h4 : ∀ (j : Nat) q e, es[j]? = some q → ents[j]? = some e → e.key = keyVal i.agg i.kk q.1 ∧ e.born = q.2.2 ∧ Rep E w q.2.1 e.val := fun j q e hq he => h3 j (keyVal i.agg i.kk q.1, q.2) e (by rw [List.getElem?_map, hq]; rfl) he
      have hks := map_keys h2 h4
      have hf := H.find w l ents.toList (es.map (·.1)) e2 (fun q hq => by
        obtain ⟨p, hp, rfl⟩ := List.mem_map.1 hq
        simpa using List.all_eq_true.1 hlen p hp) hks
      rw [hj] at hf
      simp only [Option.bind_none] at hf
      have hset : ∀ (es' : Array MapEntry) (c' : Nat), (setObj (E.home id).blk (.map es' c')).run P w = .ok () (w.putObj (E.home id).blk (.map es' c')) := fun es' c' => MapKept.run_setObj_map _ h1
      have hrun : (execOp a.eval o).run P w = .ok .skip (w.putObj (E.home id).blk (.map (ents.push { key := keyVal i.agg i.kk l, val := a.eval z, born := clock }) (clock + 1))) := by
        rcases ho with ho | ho <;> simp [execOp, ho, hu, e1, Instr.mapUpdate, run_underlying H.und, MapKept.run_getObj_map h1, H.check _ w l e2, hf, hset]
      have hro : ¬ E.ro (E.home id).blk := fun k => by have := (h.frz id _ hm).2 k; cases this
      have hlt : (E.home id).blk < w.heap.size := (Array.getElem?_eq_some_iff.1 h1).1
      have hk : ∀ b, E.ro b → (w.putObj (E.home id).blk (.map (ents.push { key := keyVal i.agg i.kk l, val := a.eval z, born := clock }) (clock + 1))).heap[b]? = w.heap[b]? := fun b hb => World.putObj_heap_other fun e => hro (e ▸ hb)
      have key := h.write (b' := mapB i (es ++ [(l, vv, clock)]) (clock + 1)) hm rfl rfl (grownBy_putObj' w (E.home id).blk (.map (ents.push { key := keyVal i.agg i.kk l, val := a.eval z, born := clock }) (clock + 1))) (.map _ _ _ (ents.push { key := keyVal i.agg i.kk l, val := a.eval z, born := clock }) (World.putObj_heap_same hlt) (by simp [h2]) fun k q e hq he => by
        rw [List.getElem?_map, Option.map_eq_some_iff] at hq
        obtain ⟨p, hp, rfl⟩ := hq
        by_cases hk2 : k < es.length
        · rw [List.getElem?_append_left hk2] at hp
          rw [Array.getElem?_push, if_neg (by omega)] at he
          obtain ⟨a1, a2, a3⟩ := h4 k p e hp he
          exact ⟨a1, a2, a3.keep (Env.le.refl E) hk⟩
        · rw [List.getElem?_append_right (by omega)] at hp
          have hk0 : k = es.length := by
            have := (List.getElem?_eq_some_iff.1 hp).1
            simp at this
            omega
          subst hk0
          simp at hp
          rw [Array.getElem?_push, if_pos h2.symm] at he
          cases hp; cases he
          exact ⟨rfl, rfl, hzv.keep (Env.le.refl E) hk⟩)
      exact ⟨_, hrun, key⟩
theorem stepI_insert {M : MTab} (hM : MTabOk P M) {o : Oper} {x y z : Operand} {t : TypeId} (ho : o.op = .mapUpdate t x y z ∨ o.op = .insert t x y z) {i : MapI} (hi : M t = some i) {id clock : Nat} {es : List (List Int × SV × Nat)} {kv vv : SV} {l : List Int}
    (hx : opd ns s x = some (.mp id)) (hm : s.mem id = some (mapB i es clock)) (hy : opd ns s y = some kv) (hl : keyOf i kv = some l) (hlen : es.all (fun q => q.1.length == i.kk.length) = true) (hj : findK l (es.map (·.1)) 0 = none) (hz : opd ns s z = some vv) :
    StepI P r ns n s o fun n' s' => n' = n ∧ s' = { slots := setSlot s.slots o.dst .und, mem := setMem s.mem id (some (mapB i (es ++ [(l, vv, clock)]) (clock + 1))) } := by
  intro W0 R0 B E a w hin h hd K Q hK
  refine oper_in (fun c e => by rcases ho with ho | ho <;> rw [ho] at e <;> cases e) ?_
  obtain ⟨w', hrun, key⟩ := insert_run hM h ho hi hx hm hy hl hlen hj hz
  unfold Oper.wp
  rw [hrun]
  exact hK n _ E _ _ ⟨rfl, rfl⟩ (key.put hd (Rep.und (E := E) (w := w') undef))
theorem ExecS.lookup {M : MTab} (hM : MTabOk P M) {ops : Array Oper} {o : Oper} {lo : List Oper} {Q : Nat → St → Prop} {x y : Operand} {t : TypeId} {ok : Bool} (ho : o.op = .lookup t x y ok) {i : MapI} {id clock : Nat} {es : List (List Int × SV × Nat)} {kv : SV} {l : List Int} (hg : guardS ops ns s o = some true) (hi : M t = some i)
    (hx : opd ns s x = some (.mp id)) (hm : s.mem id = some (mapB i es clock)) (hy : opd ns s y = some kv) (hl : keyOf i kv = some l) (hlen : es.all (fun q => q.1.length == i.kk.length) = true)
    (h : ExecS P r ns ops n lo { slots := setSlot s.slots o.dst (lookV i es l ok), mem := s.mem } Q) : ExecS P r ns ops n (o :: lo) s Q :=
  ⟨hg, _, stepI_lookup hM ho hi hx hm hy hl hlen, fun n' s' ⟨e1, e2⟩ => by rw [e1, e2]; exact h⟩
theorem ExecS.insert {M : MTab} (hM : MTabOk P M) {ops : Array Oper} {o : Oper} {lo : List Oper} {Q : Nat → St → Prop} {x y z : Operand} {t : TypeId} (ho : o.op = .mapUpdate t x y z ∨ o.op = .insert t x y z) {i : MapI} {id clock : Nat} {es : List (List Int × SV × Nat)} {kv vv : SV} {l : List Int} (hg : guardS ops ns s o = some true) (hi : M t = some i)
    (hx : opd ns s x = some (.mp id)) (hm : s.mem id = some (mapB i es clock)) (hy : opd ns s y = some kv) (hl : keyOf i kv = some l) (hlen : es.all (fun q => q.1.length == i.kk.length) = true) (hj : findK l (es.map (·.1)) 0 = none) (hz : opd ns s z = some vv)
    (h : ExecS P r ns ops n lo { slots := setSlot s.slots o.dst .und, mem := setMem s.mem id (some (mapB i (es ++ [(l, vv, clock)]) (clock + 1))) } Q) : ExecS P r ns ops n (o :: lo) s Q :=
  ⟨hg, _, stepI_insert hM ho hi hx hm hy hl hlen hj hz, fun n' s' ⟨e1, e2⟩ => by rw [e1, e2]; exact h⟩
theorem ExecS.delete {M : MTab} (hM : MTabOk P M) {ops : Array Oper} {o : Oper} {lo : List Oper} {Q : Nat → St → Prop} {x y : Operand} {c : Call} {t t' : TypeId} {i : MapI} {id clock : Nat} {es : List (List Int × SV × Nat)} {kv : SV} {l : List Int} {j : Nat} (ho : o.op = .call c) (hc1 : c.callee = .builtin .delete) (hc2 : c.args.toList = [x, y]) (hc3 : c.argTypes.toList = [t, t']) (hg : guardS ops ns s o = some true) (hi : M t = some i)
    (hx : opd ns s x = some (.mp id)) (hm : s.mem id = some (mapB i es clock)) (hy : opd ns s y = some kv) (hl : keyOf i kv = some l) (hlen : es.all (fun q => q.1.length == i.kk.length) = true) (hj : findK l (es.map (·.1)) 0 = some j)
    (h : ExecS P r ns ops n lo { slots := setSlot s.slots o.dst (.tup []), mem := setMem s.mem id (some (mapB i (es.eraseIdx j) clock)) } Q) : ExecS P r ns ops n (o :: lo) s Q :=
  ⟨hg, _, stepI_delete hM (by rw [call_eq hc1 hc2 hc3] at ho; exact ho) hi hx hm hy hl hlen hj, fun n' s' ⟨e1, e2⟩ => by rw [e1, e2]; exact h⟩
section
variable {l0 : List Oper} {n0 : Nat} {o : Oper} {l : List Oper} {acc : List FtV} {Q : Nat → St → Prop}
open Classical in
theorem ExecV.makeMap {t : TypeId} (i : MapI) (hg : guardS l0.toArray ns s o = some true) (ho : o.op = .makeMap t none) (hok : OkV l0 acc.length n0 acc ⟨n, n + 1, [], []⟩)
    (h : ExecV P r ns l0 n0 l (n + 1) ⟨setSlot s.slots o.dst (.mp n), setMem s.mem n (some (mapB i [] 0))⟩ (acc ++ [⟨n, n + 1, [], []⟩]) Q) : ExecV P r ns l0 n0 (o :: l) n s acc Q :=
  ⟨⟨.act (.mp n) [], n, s, n + 1, ⟨setSlot s.slots o.dst (.mp n), setMem s.mem n (some (mapB i [] 0))⟩, []⟩, rfl, rfl, ⟨⟨hg, fun D s' hD hsl _ hrd => by
    intro W0 R0 B E a w hin hs hd K1 Q' hK1
    have hDn : ¬ D n := fun h => hD n h ⟨Nat.le_refl _, Nat.lt_succ_self _⟩
    have hb : Below w.heap.size w (w.alloc (.map #[] 0)) := (Below.refl _ _).alloc (Nat.le_refl _) _
    have hro : ∀ b, E.ro b → (w.alloc (.map #[] 0)).heap[b]? = w.heap[b]? := fun b hb' => hb.block b (hs.rlt b hb')
    have key := hs.new (w' := w.alloc (.map #[] 0)) hDn (mapB i [] 0) ⟨w.heap.size, 0, 0⟩ (hs.kept hb) hro (fun k c hk => hb.block _ (hs.mem k c hk).lt) (.map [] 0 false #[] (heap_alloc_new w _) rfl (by simp)) (hs.fresh (Nat.le_refl _)) rfl (fun hk => Nat.lt_irrefl _ (hs.rlt _ hk)) (fun k c hk e => Nat.lt_irrefl _ (e ▸ (hs.mem k c hk).lt))
    have hm : (fun i' => if i' ∈ ([] : List Nat) ∨ New n (n + 1) i' then setMem s.mem n (some (mapB i [] 0)) i' else s'.mem i') = setMem s'.mem n (some (mapB i [] 0)) := by
      funext i'
      by_cases e : i' = n
      · subst e; rw [if_pos (.inr ⟨Nat.le_refl _, Nat.lt_succ_self _⟩)]; simp [setMem]
      · rw [if_neg (fun h => h.elim (by simp) fun h => e (by have := h.1; have := h.2; omega))]; simp [setMem, e]
    have h4 : Sim W0 R0 ns (fun i => D i ∨ New n (n + 1) i) ⟨s'.slots, setMem s'.mem n (some (mapB i [] 0))⟩ (E.add n ⟨w.heap.size, 0, 0⟩) a (w.alloc (.map #[] 0)) := key.weak fun i hi => hi.elim (fun e => .inr (by subst e; exact ⟨Nat.le_refl _, Nat.lt_succ_self _⟩)) .inl
    have hr : (execOp a.eval o).run P w = .ok (.value (.map (some w.heap.size))) (w.alloc (.map #[] 0)) := by simp [execOp, ho, Instr.makeMap]
    refine oper_in (fun c e => by rw [ho] at e; cases e) ?_
    unfold Oper.wp
    rw [hr]
    refine hK1 (E.add n ⟨w.heap.size, 0, 0⟩) _ (w.alloc (.map #[] 0)) ?_
    rw [hm]
    refine h4.put hd ?_
    have := Rep.mp (E := E.add n ⟨w.heap.size, 0, 0⟩) (w := w.alloc (.map #[] 0)) n (.inl rfl)
    simpa [Env.add] using this, Nat.le_succ _, rfl, fun i hi => by
    have e : ¬ i = n := fun e => hi (.inr (by subst e; exact ⟨Nat.le_refl _, Nat.lt_succ_self _⟩))
    simp [setMem, e]⟩⟩, hok, h⟩
open Classical in
theorem ExecV.insert {M : MTab} (hM : MTabOk P M) {x y z : Operand} {t : TypeId} (ho : o.op = .mapUpdate t x y z ∨ o.op = .insert t x y z) {i : MapI} {id clock : Nat} {es : List (List Int × SV × Nat)} {kv vv : SV} {k : List Int} (hg : guardS l0.toArray ns s o = some true) (hi : M t = some i)
    (hx : opd ns s x = some (.mp id)) (hm : s.mem id = some (mapB i es clock)) (hy : opd ns s y = some kv) (hl : keyOf i kv = some k) (hlen : es.all (fun q => q.1.length == i.kk.length) = true) (hj : findK k (es.map (·.1)) 0 = none) (hz : opd ns s z = some vv) (hok : OkV l0 acc.length n0 acc ⟨n, n, [id], [id]⟩)
    (h : ExecV P r ns l0 n0 l n ⟨setSlot s.slots o.dst .und, setMem s.mem id (some (mapB i (es ++ [(k, vv, clock)]) (clock + 1)))⟩ (acc ++ [⟨n, n, [id], [id]⟩]) Q) : ExecV P r ns l0 n0 (o :: l) n s acc Q :=
  ⟨⟨.act .und [id], n, s, n, ⟨setSlot s.slots o.dst .und, setMem s.mem id (some (mapB i (es ++ [(k, vv, clock)]) (clock + 1)))⟩, [id]⟩, rfl, rfl, ⟨⟨hg, fun D s' hD hsl _ hrd => by
    intro W0 R0 B E a w hin hs hd K1 Q' hK1
    have hop : ∀ q, q ∈ o.op.operands.toList → opd ns s' q = opd ns s q := fun q hq => opd_congr fun t ht => hsl t (mem_slotsOf (ht ▸ hq))
    have hq : ∀ q, (q = x ∨ q = y ∨ q = z) → opd ns s' q = opd ns s q := fun q hq => hop q (by rcases ho with ho | ho <;> rw [ho] <;> rcases hq with rfl | rfl | rfl <;> simp [Op.operands])
    obtain ⟨w', hrun, key⟩ := insert_run hM hs ho hi ((hq x (.inl rfl)).trans hx) ((hrd id List.mem_cons_self).trans hm) ((hq y (.inr (.inl rfl))).trans hy) hl hlen hj ((hq z (.inr (.inr rfl))).trans hz)
    have hmm : (fun i' => if i' ∈ [id] ∨ New n n i' then setMem s.mem id (some (mapB i (es ++ [(k, vv, clock)]) (clock + 1))) i' else s'.mem i') = setMem s'.mem id (some (mapB i (es ++ [(k, vv, clock)]) (clock + 1))) := by
      funext i'
      by_cases e : i' = id
      · subst e; rw [if_pos (.inl List.mem_cons_self)]; simp [setMem]
      · rw [if_neg (fun h => h.elim (fun h => e (List.mem_singleton.1 h)) fun h => by have := h.1; have := h.2; omega)]; simp [setMem, e]
    refine oper_in (fun c e => by rcases ho with ho | ho <;> rw [ho] at e <;> cases e) ?_
    unfold Oper.wp
    rw [hrun]
    refine hK1 E _ w' ?_
    rw [hmm]
    exact (key.put hd (Rep.und (E := E) (w := w') undef)).weak fun i hi => .inl hi, Nat.le_refl _, rfl, fun i hi => by
    have e : ¬ i = id := fun e => hi (.inl (by subst e; exact List.mem_cons_self))
    simp [setMem, e]⟩⟩, hok, h⟩
end
end Go.Proofs.Ytgiomfamlbmpcaa.Eng

namespace Go.Proofs.Ytgiomfamlbmpcaa.Eng
open Go.RowKit
def addQ (A B : List HE) (x : HE) : List HE := if x ∈ A ++ B then B else B ++ [x]
def procA (l : List HS) (rs : List (Nat → Int)) (k : Nat) : List HE → List HE → List HE
  | [], B => B
  | a :: A, B => procA l rs k A ((onwX l rs a k).foldl (fun B p => addQ A B p.2) B)
def marksA (l : List HS) (rs : List (Nat → Int)) (A : List HE) : List Nat := A.flatMap fun a => (onwX l rs a 1).map (·.1)
def endsG (l : List HS) (rs : List (Nat → Int)) : Nat → List HE → List Nat
  | 0, _ => []
  | k + 1, A => (if k = 0 then marksA l rs A else []) ++ endsG l rs k (procA l rs (k + 1) A [])
def todoG (l : List HS) (rs : List (Nat → Int)) : Nat → List HE → Nat
  | 0, A => A.length
  | k + 1, A => A.length + todoG l rs k (procA l rs (k + 1) A [])
def restG (l : List HS) (rs : List (Nat → Int)) : Nat → List HE → List HE → List Nat
  | 0, _, _ => []
  | k + 1, A, B => (if k = 0 then marksA l rs A else []) ++ endsG l rs k (procA l rs (k + 1) A B)
def muG (l : List HS) (rs : List (Nat → Int)) : Nat → List HE → List HE → Nat
  | 0, A, _ => A.length
  | k + 1, A, B => A.length + todoG l rs k (procA l rs (k + 1) A B)
theorem endsG_nil (l : List HS) (rs : List (Nat → Int)) : ∀ k, endsG l rs k [] = []
  | 0 => rfl
  | k + 1 => by
    rw [endsG, procA, endsG_nil l rs k]
    split <;> rfl
theorem restG_nil (l : List HS) (rs : List (Nat → Int)) (k : Nat) : restG l rs k [] [] = [] := by
  cases k with
  | zero => rfl
  | succ k =>
    rw [restG, procA, endsG_nil]
    split <;> rfl
theorem restG_new (l : List HS) (rs : List (Nat → Int)) (k : Nat) (B : List HE) : restG l rs (k + 1) [] B = restG l rs k B [] := by
  rw [restG, procA]
  cases k with
  | zero => rfl
  | succ k => rfl
theorem muG_new (l : List HS) (rs : List (Nat → Int)) (k : Nat) (B : List HE) : muG l rs (k + 1) [] B = muG l rs k B [] := by
  rw [muG, procA]
  cases k with
  | zero => simp [todoG, muG]
  | succ k => simp [todoG, muG]
theorem restG_one (l : List HS) (rs : List (Nat → Int)) (k : Nat) (a : HE) (A B : List HE) (st : Nat) : st ∈ restG l rs k (a :: A) B ↔ (k = 1 ∧ st ∈ (onwX l rs a 1).map (·.1)) ∨ st ∈ restG l rs k A ((onwX l rs a k).foldl (fun B p => addQ A B p.2) B) := by
  cases k with
  | zero => simp [restG]
  | succ k =>
    rw [restG, restG, procA]
    by_cases hk : k = 0
    · subst hk
      simp only [if_true, List.mem_append, marksA, List.flatMap_cons, Nat.zero_add, true_and]
      constructor
      · rintro ((h | h) | h)
        · exact .inl h
        · exact .inr (.inl h)
        · exact .inr (.inr h)
      · rintro (h | h | h)
        · exact .inl (.inl h)
        · exact .inl (.inr h)
        · exact .inr h
    · simp [hk]
theorem muG_one (l : List HS) (rs : List (Nat → Int)) (k : Nat) (a : HE) (A B : List HE) : muG l rs k (a :: A) B = muG l rs k A ((onwX l rs a k).foldl (fun B p => addQ A B p.2) B) + 1 := by
  cases k with
  | zero => simp [muG]
  | succ k => rw [muG, muG, procA, List.length_cons]; omega
def endsO (l : List HS) (e g : HE) : List Int := if chkErr l [e, g] = 0 then (match needN l g e with
  | some k => ((List.range 6).filter fun i => decide (i ∈ endsG l ((rowsG l g).take k) k [e])).map fun i : Nat => (i : Int)
  | none => []) else []
theorem nodup_lt : ∀ (n : Nat) (l : List Nat), l.Nodup → (∀ x ∈ l, x < n) → l.length ≤ n
  | 0, l, _, h => by
    cases l with
    | nil => simp
    | cons a l => exact absurd (h a List.mem_cons_self) (by omega)
  | n + 1, l, hl, h => by
    have h1 := nodup_lt n (l.erase n) (hl.erase n) fun x hx => by
      rw [hl.mem_erase_iff] at hx
      have := h x hx.2
      omega
    rw [List.length_erase] at h1
    split at h1 <;> omega
theorem waits_le {q : List HE} (hn : q.Nodup) (hg : ∀ e ∈ q, GoodE e) : q.length ≤ 707 := by
  have h := nodup_lt 707 (q.map fun e => (7 * e.depth + e.burr).toNat) ?_ ?_
  · rwa [List.length_map] at h
  · rw [List.Nodup, List.pairwise_map]
    refine List.Pairwise.imp_of_mem (fun {a b} ha hb hab he => hab ?_) hn
    obtain ⟨a1, a2, a3, a4⟩ := hg a ha
    obtain ⟨b1, b2, b3, b4⟩ := hg b hb
    cases a; cases b
    simp only at *
    rw [HE.mk.injEq]
    omega
  · intro x hx
    obtain ⟨e, he, rfl⟩ := List.mem_map.1 hx
    obtain ⟨a1, a2, a3, a4⟩ := hg e he
    omega
theorem addQ_nd {A B : List HE} {x : HE} (h : (A ++ B).Nodup) : (A ++ addQ A B x).Nodup := by
  unfold addQ
  split
  · exact h
  · rename_i hx
    rw [← List.append_assoc, List.nodup_append]
    refine ⟨h, by simp, fun y hy z hz e => ?_⟩
    simp only [List.mem_cons, List.not_mem_nil, or_false] at hz
    subst hz
    subst e
    exact hx hy
def heS (e : HE) : List SV := [.d (iD e.depth), .d (iD e.burr)]
def qS (q : List HE) : List SV := q.flatMap heS
@[simp] theorem heS_len (e : HE) : (heS e).length = 2 := rfl
theorem qS_len (q : List HE) : (qS q).length = q.length * 2 := by
  induction q with
  | nil => rfl
  | cons a q ih => rw [qS, List.flatMap_cons, List.length_append, ← qS, ih, heS_len, List.length_cons]; omega
theorem qS_app (q : List HE) (x : HE) : qS (q ++ [x]) = qS q ++ heS x := by simp [qS]
structure QIn (q : List HE) (cells : List SV) (off cp : Nat) : Prop where
  le : q.length ≤ cp
  room : off + cp * 2 ≤ cells.length
  eq : (cells.drop off).take (q.length * 2) = qS q
theorem QIn.head {a : HE} {q : List HE} {cells : List SV} {off cp : Nat} (h : QIn (a :: q) cells off cp) : (cells.drop off).take 2 = heS a := by
  have h1 := congrArg (List.take 2) h.eq
  rw [List.take_take] at h1
  rw [show min 2 ((a :: q).length * 2) = 2 by rw [List.length_cons]; omega] at h1
  rw [h1, qS, List.flatMap_cons]
  rfl
theorem QIn.tail {a : HE} {q : List HE} {cells : List SV} {off cp : Nat} (h : QIn (a :: q) cells off cp) : QIn q cells (if cp = 1 then off else off + 1 * 2) (cp - 1) := by
  have h1 := h.le
  have h2 := h.room
  rw [List.length_cons] at h1
  by_cases hc : cp = 1
  · have hq : q = [] := List.length_eq_zero_iff.1 (by omega)
    subst hq
    rw [if_pos hc]
    exact ⟨by simp, by omega, by simp [qS]⟩
  · rw [if_neg hc]
    refine ⟨by omega, by omega, ?_⟩
    have h3 := congrArg (List.drop 2) h.eq
    rw [List.drop_take, List.drop_drop] at h3
    rw [show (a :: q).length * 2 - 2 = q.length * 2 by rw [List.length_cons]; omega] at h3
    rw [Nat.one_mul, h3, qS, List.flatMap_cons]
    rfl
theorem QIn.room1 {q : List HE} {cells : List SV} {off cp : Nat} (h : QIn q cells off cp) (x : HE) (hc : q.length + 1 ≤ cp) : QIn (q ++ [x]) (splice cells (off + q.length * 2) (heS x)) off cp := by
  have h1 := h.room
  refine ⟨by rw [List.length_append]; exact hc, by simp [splice]; omega, ?_⟩
  rw [qS_app, ← h.eq, List.length_append, splice]
  simp only [List.length_cons, List.length_nil, Nat.zero_add, heS_len]
  rw [List.append_assoc, List.drop_append_of_le_length (by rw [List.length_take]; omega), List.drop_take, show off + q.length * 2 - off = q.length * 2 by omega]
  rw [List.take_append, List.take_of_length_le (by rw [List.length_take]; omega)]
  congr 1
  rw [List.length_take, List.length_drop, Nat.min_eq_left (by omega), show (q.length + 1) * 2 - q.length * 2 = 2 by omega]
  rfl
theorem QIn.grow {q : List HE} {cells : List SV} {off cp : Nat} (h : QIn q cells off cp) (x : HE) (cp' : Nat) (hc : q.length + 1 ≤ cp') (zs : List SV) (hz : zs.length = (cp' - (q.length + 1)) * 2) : QIn (q ++ [x]) ((cells.drop off).take (q.length * 2) ++ heS x ++ zs) 0 cp' := by
  have h1 := qS_len q
  rw [h.eq]
  refine ⟨by rw [List.length_append]; exact hc, by simp [h1, hz]; omega, ?_⟩
  rw [qS_app, List.length_append, List.drop_zero]
  simp only [List.length_cons, List.length_nil, Nat.zero_add]
  rw [List.take_append_of_le_length (by simp [h1]; omega), List.take_of_length_le (by simp [h1]; omega)]
def markS (M : Nat → Bool) : List SV := (List.range 6).map fun i => .d (bD (M i))
@[simp] theorem markS_len (M : Nat → Bool) : (markS M).length = 6 := by simp [markS]
theorem markS_put (M : Nat → Bool) {st : Nat} (h : st < 6) : List.take st (markS M) ++ SV.d (bD true) :: List.drop (st + 1) (markS M) = markS fun i => if i = st then true else M i := by
  apply List.ext_getElem?
  intro j
  have ht : (List.take st (markS M)).length = st := by simp; omega
  by_cases h1 : j < st
  · rw [List.getElem?_append_left (by omega), List.getElem?_take, if_pos h1]
    simp [markS, show j < 6 by omega, show ¬ j = st by omega]
  · rw [List.getElem?_append_right (by omega), ht]
    by_cases h2 : j = st
    · subst h2
      simp [markS, h]
    · obtain ⟨d, rfl⟩ : ∃ d, j = st + 1 + d := ⟨j - (st + 1), by omega⟩
      rw [show st + 1 + d - st = d + 1 by omega, List.getElem?_cons_succ, List.getElem?_drop]
      by_cases h3 : st + 1 + d < 6
      · simp [markS, h3, show ¬ st + 1 + d = st by omega]
      · simp [markS, h3]
def heK (e : HE) : List Int := [e.depth, e.burr]
theorem heK_inj {a b : HE} (h : heK a = heK b) : a = b := by
  cases a; cases b
  simp only [heK, List.cons.injEq, and_true] at h
  rw [HE.mk.injEq]
  exact h
def kvs (k : Nat) (A B : List HE) : List (List Int × SV) := (A.map fun e => (heK e, .d (iD (k : Int)))) ++ B.map fun e => (heK e, .d (iD ((k : Int) - 1)))
def EsOk (es : List (List Int × SV × Nat)) (k : Nat) (A B : List HE) : Prop := (es.map fun q => (q.1, q.2.1)) = kvs k A B
theorem EsOk.keys {es : List (List Int × SV × Nat)} {k : Nat} {A B : List HE} (h : EsOk es k A B) : es.map (·.1) = (A ++ B).map heK := by
  have := congrArg (List.map (·.1)) h
  simpa [kvs, Function.comp_def] using this
theorem EsOk.lens {es : List (List Int × SV × Nat)} {k : Nat} {A B : List HE} (h : EsOk es k A B) : es.all (fun q => q.1.length == 2) = true := by
  rw [List.all_eq_true]
  intro q hq
  have h1 : q.1 ∈ es.map (·.1) := List.mem_map.2 ⟨q, hq, rfl⟩
  rw [h.keys] at h1
  obtain ⟨e, _, he⟩ := List.mem_map.1 h1
  rw [← he]
  rfl
theorem EsOk.head {es : List (List Int × SV × Nat)} {k : Nat} {a : HE} {A B : List HE} (h : EsOk es k (a :: A) B) : ∃ b es', es = (heK a, .d (iD (k : Int)), b) :: es' ∧ EsOk es' k A B := by
  cases es with
  | nil => cases h
  | cons q es =>
    have h1 : (q.1, q.2.1) :: (es.map fun q => (q.1, q.2.1)) = (heK a, SV.d (iD (k : Int))) :: kvs k A B := h
    rw [List.cons.injEq, Prod.mk.injEq] at h1
    obtain ⟨⟨h2, h3⟩, h4⟩ := h1
    exact ⟨q.2.2, es, by rw [← h2, ← h3], h4⟩
theorem EsOk.add {es : List (List Int × SV × Nat)} {k : Nat} {A B : List HE} (h : EsOk es k A B) (x : HE) (b : Nat) : EsOk (es ++ [(heK x, .d (iD ((k : Int) - 1)), b)]) k A (B ++ [x]) := by
  unfold EsOk at h ⊢
  rw [List.map_append, h]
  simp [kvs]
theorem EsOk.new {es : List (List Int × SV × Nat)} {k : Nat} {B : List HE} (h : EsOk es (k + 1) [] B) : EsOk es k B [] := by
  unfold EsOk at h ⊢
  rw [h]
  simp [kvs, show ((k : Int) + 1 - 1) = k by omega]
theorem findK_none {l : List Int} {ks : List (List Int)} (h : l ∉ ks) : findK l ks 0 = none := by
  induction ks with
  | nil => rfl
  | cons k ks ih =>
    rw [List.mem_cons, not_or] at h
    rw [findK_cons, if_neg h.1, findK_off, ih h.2]
    rfl
theorem findK_mem {l : List Int} {ks : List (List Int)} (h : l ∈ ks) : ∃ j, findK l ks 0 = some j ∧ j < ks.length := by
  induction ks with
  | nil => cases h
  | cons k ks ih =>
    by_cases e : l = k
    · exact ⟨0, by rw [findK_cons, if_pos e], by simp⟩
    · obtain ⟨j, h1, h2⟩ := ih ((List.mem_cons.1 h).resolve_left e)
      exact ⟨j + 1, by rw [findK_cons, if_neg e, findK_off, h1]; rfl, by simp; omega⟩
theorem EsOk.waits {es : List (List Int × SV × Nat)} {k : Nat} {A B : List HE} (h : EsOk es k A B) (i : MapI) (x : HE) : ∃ v, lookV i es (heK x) true = .tup [v, .d (.val (.bool (decide (x ∈ A ++ B))))] := by
  by_cases hx : x ∈ A ++ B
  · obtain ⟨j, h1, h2⟩ := findK_mem (l := heK x) (ks := es.map (·.1)) (by rw [h.keys]; exact List.mem_map.2 ⟨x, hx, rfl⟩)
    rw [List.length_map] at h2
    refine ⟨es[j].2.1, ?_⟩
    simp [lookV, h1, h2, hx]
  · have h1 : findK (heK x) (es.map (·.1)) 0 = none := findK_none (by
      rw [h.keys]
      intro hm
      obtain ⟨y, hy, he⟩ := List.mem_map.1 hm
      exact hx (heK_inj he ▸ hy))
    exact ⟨i.zero, by simp [lookV, h1, hx]⟩
theorem EsOk.no {es : List (List Int × SV × Nat)} {k : Nat} {A B : List HE} (h : EsOk es k A B) {x : HE} (hx : x ∉ A ++ B) : findK (heK x) (es.map (·.1)) 0 = none := findK_none (by
  rw [h.keys]
  intro hm
  obtain ⟨y, hy, he⟩ := List.mem_map.1 hm
  exact hx (heK_inj he ▸ hy))
end Go.Proofs.Ytgiomfamlbmpcaa.Eng

noncomputable section
namespace Go.Proofs.Ytgiomfamlbmpcaa.Eng
open Go.RowKit
set_option maxRecDepth 100000
def MT : MTab := fun t => if t = 114 then some ⟨24, 3, .d (.val (.int .i64 0)), true, [.i64, .i64]⟩ else none
theorem eq_by_2 {P : Program} {t t0 t1 : TypeId} {f0 f1 : Field} {k0 k1 : IntKind} (w : World) {m n : List Int} (hm : m.length = 2) (hn : n.length = 2) (hs : P.stoodInHeld t = false) (hu : P.underlying t = some (.struct #[f0, f1])) (h0 : P.underlying t0 = some (.int k0)) (h1 : P.underlying t1 = some (.int k1))
    (hf : f0.type = t0 ∧ f0.offset = 0 ∧ f0.name ≠ "_" ∧ f1.type = t1 ∧ f1.offset = 1 ∧ f1.name ≠ "_") : (Op.equal t (aggInts [k0, k1] m) (aggInts [k0, k1] n)).run P w = .ok (decide (m = n)) w := by
  match m, n, hm, hn with
  | [a, c], [b, d], _, _ =>
    obtain ⟨rfl, o0, n0, rfl, o1, n1⟩ := hf
    unfold Op.equal aggInts
    rw [show Op.maxDepth = 9998 + 1 + 1 from rfl, run_equalIn_struct w _ t _ _ (by rw [fieldsOf_eq hu]; exact hu) hs, fieldsOf_eq hu]
    by_cases q : a = b
    · subst q
      by_cases q : c = d
      · subst q; simp [Op.eqFields, n0, o0, n1, o1, part_int h0, part_int h1, run_equalIn_int w _ _ k0 k0 _ _ h0, run_equalIn_int w _ _ k1 k1 _ _ h1]
      · simp [Op.eqFields, n0, o0, n1, o1, part_int h0, part_int h1, run_equalIn_int w _ _ k0 k0 _ _ h0, run_equalIn_int w _ _ k1 k1 _ _ h1, q]
    · simp [Op.eqFields, n0, o0, n1, o1, part_int h0, part_int h1, run_equalIn_int w _ _ k0 k0 _ _ h0, run_equalIn_int w _ _ k1 k1 _ _ h1, q]
theorem check_by_2 {P : Program} {t t0 t1 : TypeId} {f0 f1 : Field} {k0 k1 : IntKind} (b : Bool) (w : World) {n : List Int} (hn : n.length = 2) (hu : P.underlying t = some (.struct #[f0, f1])) (h0 : P.underlying t0 = some (.int k0)) (h1 : P.underlying t1 = some (.int k1))
    (hf : f0.type = t0 ∧ f0.offset = 0 ∧ f0.name ≠ "_" ∧ f1.type = t1 ∧ f1.offset = 1 ∧ f1.name ≠ "_") : (Instr.checkKey b 10000 t (aggInts [k0, k1] n)).run P w = .ok () w := by
  match n, hn with
  | [a, c], _ =>
    obtain ⟨rfl, o0, n0, rfl, o1, n1⟩ := hf
    have c0 : ∀ x, (Instr.checkKey b 9999 f0.type (.int k0 x)).run P w = .ok () w := fun x => by
      show (Instr.checkKey b (9998 + 1) f0.type (.int k0 x)).run P w = _
      rw [Instr.checkKey]
      simp only [Sem.run_bind, run_underlying h0, Result.andThen_ok]
      rfl
    have c1 : ∀ x, (Instr.checkKey b 9999 f1.type (.int k1 x)).run P w = .ok () w := fun x => by
      show (Instr.checkKey b (9998 + 1) f1.type (.int k1 x)).run P w = _
      rw [Instr.checkKey]
      simp only [Sem.run_bind, run_underlying h1, Result.andThen_ok]
      rfl
    show (Instr.checkKey b (9999 + 1) t (.agg #[.int k0 a, .int k1 c])).run P w = _
    rw [Instr.checkKey]
    simp only [Sem.run_bind, run_underlying hu, Result.andThen_ok]
    simp [n0, o0, n1, o1, part_int h0, part_int h1, c0, c1]
theorem mtOk : MTabOk Try.prog MT := fun t i h => by
  unfold MT at h
  split at h
  · rename_i e
    subst e
    cases h
    refine mapOk_ints (d := _) Try.underlying114 Try.underlying24 (fun x y => rfl) rfl (fun w a b ha hb => ?_) (fun b w ns hl => ?_) ⟨.int .i64 0, fun w => ?_, fun E w => rep_val rfl⟩
    · exact eq_by_2 w ha hb (by kernel_rfl) Try.underlying24 Try.underlying3 Try.underlying3 (by decide)
    · exact check_by_2 b w hl Try.underlying24 Try.underlying3 Try.underlying3 (by decide)
    · have h := info3
      rw [Option.map_eq_some_iff] at h
      obtain ⟨inf, h1, h2⟩ := h
      simp only [Prod.mk.injEq] at h2
      simp [zeroValue, typeInfo, h1, h2.1]
  · cases h
end Go.Proofs.Ytgiomfamlbmpcaa.Eng
