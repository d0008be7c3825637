/-
  A part of the texts that the claim builds on: see the last one.
-/
import Derived.Test.YtcmkkgdjhjpldaaDl4
import Derived.Deep.OwnRows
import Derived.Laws.CopyOwn
set_option linter.unusedSimpArgs false
set_option linter.unusedVariables false
namespace Go.Proofs.Ytcmkkgdjhjpldaa.Eng
open Go.RowKit
@[simp] theorem nk1 (n : Nat) : (n = n + 1) = False := by simp only [eq_iff_iff, iff_false]; omega
@[simp] theorem mk1 (n : Nat) : (n + 1 = n) = False := by simp only [eq_iff_iff, iff_false]; omega
@[simp] theorem nk2 (n : Nat) : (n = n + 1 + 1) = False := by simp only [eq_iff_iff, iff_false]; omega
@[simp] theorem mk2 (n : Nat) : (n + 1 + 1 = n) = False := by simp only [eq_iff_iff, iff_false]; omega
@[simp] theorem nk3 (n : Nat) : (n = n + 1 + 1 + 1) = False := by simp only [eq_iff_iff, iff_false]; omega
@[simp] theorem mk3 (n : Nat) : (n + 1 + 1 + 1 = n) = False := by simp only [eq_iff_iff, iff_false]; omega
@[simp] theorem nk4 (n : Nat) : (n = n + 1 + 1 + 1 + 1) = False := by simp only [eq_iff_iff, iff_false]; omega
@[simp] theorem mk4 (n : Nat) : (n + 1 + 1 + 1 + 1 = n) = False := by simp only [eq_iff_iff, iff_false]; omega
@[simp] theorem nk5 (n : Nat) : (n = n + 1 + 1 + 1 + 1 + 1) = False := by simp only [eq_iff_iff, iff_false]; omega
@[simp] theorem mk5 (n : Nat) : (n + 1 + 1 + 1 + 1 + 1 = n) = False := by simp only [eq_iff_iff, iff_false]; omega
@[simp] theorem nk6 (n : Nat) : (n = n + 1 + 1 + 1 + 1 + 1 + 1) = False := by simp only [eq_iff_iff, iff_false]; omega
@[simp] theorem mk6 (n : Nat) : (n + 1 + 1 + 1 + 1 + 1 + 1 = n) = False := by simp only [eq_iff_iff, iff_false]; omega
@[simp] theorem nk7 (n : Nat) : (n = n + 1 + 1 + 1 + 1 + 1 + 1 + 1) = False := by simp only [eq_iff_iff, iff_false]; omega
@[simp] theorem mk7 (n : Nat) : (n + 1 + 1 + 1 + 1 + 1 + 1 + 1 = n) = False := by simp only [eq_iff_iff, iff_false]; omega
@[simp] theorem nk8 (n : Nat) : (n = n + 1 + 1 + 1 + 1 + 1 + 1 + 1 + 1) = False := by simp only [eq_iff_iff, iff_false]; omega
@[simp] theorem mk8 (n : Nat) : (n + 1 + 1 + 1 + 1 + 1 + 1 + 1 + 1 = n) = False := by simp only [eq_iff_iff, iff_false]; omega
@[simp] theorem nk9 (n : Nat) : (n = n + 1 + 1 + 1 + 1 + 1 + 1 + 1 + 1 + 1) = False := by simp only [eq_iff_iff, iff_false]; omega
@[simp] theorem mk9 (n : Nat) : (n + 1 + 1 + 1 + 1 + 1 + 1 + 1 + 1 + 1 = n) = False := by simp only [eq_iff_iff, iff_false]; omega
@[simp] theorem nk10 (n : Nat) : (n = n + 1 + 1 + 1 + 1 + 1 + 1 + 1 + 1 + 1 + 1) = False := by simp only [eq_iff_iff, iff_false]; omega
@[simp] theorem mk10 (n : Nat) : (n + 1 + 1 + 1 + 1 + 1 + 1 + 1 + 1 + 1 + 1 = n) = False := by simp only [eq_iff_iff, iff_false]; omega
@[simp] theorem nk11 (n : Nat) : (n = n + 1 + 1 + 1 + 1 + 1 + 1 + 1 + 1 + 1 + 1 + 1) = False := by simp only [eq_iff_iff, iff_false]; omega
@[simp] theorem mk11 (n : Nat) : (n + 1 + 1 + 1 + 1 + 1 + 1 + 1 + 1 + 1 + 1 + 1 = n) = False := by simp only [eq_iff_iff, iff_false]; omega
@[simp] theorem nk12 (n : Nat) : (n = n + 1 + 1 + 1 + 1 + 1 + 1 + 1 + 1 + 1 + 1 + 1 + 1) = False := by simp only [eq_iff_iff, iff_false]; omega
@[simp] theorem mk12 (n : Nat) : (n + 1 + 1 + 1 + 1 + 1 + 1 + 1 + 1 + 1 + 1 + 1 + 1 = n) = False := by simp only [eq_iff_iff, iff_false]; omega
@[simp] theorem nk13 (n : Nat) : (n = n + 1 + 1 + 1 + 1 + 1 + 1 + 1 + 1 + 1 + 1 + 1 + 1 + 1) = False := by simp only [eq_iff_iff, iff_false]; omega
@[simp] theorem mk13 (n : Nat) : (n + 1 + 1 + 1 + 1 + 1 + 1 + 1 + 1 + 1 + 1 + 1 + 1 + 1 = n) = False := by simp only [eq_iff_iff, iff_false]; omega
@[simp] theorem nk14 (n : Nat) : (n = n + 1 + 1 + 1 + 1 + 1 + 1 + 1 + 1 + 1 + 1 + 1 + 1 + 1 + 1) = False := by simp only [eq_iff_iff, iff_false]; omega
@[simp] theorem mk14 (n : Nat) : (n + 1 + 1 + 1 + 1 + 1 + 1 + 1 + 1 + 1 + 1 + 1 + 1 + 1 + 1 = n) = False := by simp only [eq_iff_iff, iff_false]; omega
@[simp] theorem nk15 (n : Nat) : (n = n + 1 + 1 + 1 + 1 + 1 + 1 + 1 + 1 + 1 + 1 + 1 + 1 + 1 + 1 + 1) = False := by simp only [eq_iff_iff, iff_false]; omega
@[simp] theorem mk15 (n : Nat) : (n + 1 + 1 + 1 + 1 + 1 + 1 + 1 + 1 + 1 + 1 + 1 + 1 + 1 + 1 + 1 = n) = False := by simp only [eq_iff_iff, iff_false]; omega
@[simp] theorem nk16 (n : Nat) : (n = n + 1 + 1 + 1 + 1 + 1 + 1 + 1 + 1 + 1 + 1 + 1 + 1 + 1 + 1 + 1 + 1) = False := by simp only [eq_iff_iff, iff_false]; omega
@[simp] theorem mk16 (n : Nat) : (n + 1 + 1 + 1 + 1 + 1 + 1 + 1 + 1 + 1 + 1 + 1 + 1 + 1 + 1 + 1 + 1 = n) = False := by simp only [eq_iff_iff, iff_false]; omega
@[simp] theorem tab_drop {β : Type} (g : Int → β) (f : Nat → Int) : List.drop 7 (List.map g (tab f)) = [] := List.drop_eq_nil_of_le (by simp)
def rowsG (l : List HS) (g : HE) : List (Nat → Int) := rowsW l (firstR g)
theorem rowsG_pos (l : List HS) (g : HE) : 0 < (rowsG l g).length := by
  rw [rowsG, rowsW, rowsFrom]
  simp
def farR (l : List HS) (g : HE) (k : Nat) : Nat → Int := (rowsG l g).getD (min k ((rowsG l g).length - 1)) fun _ => 0
set_option maxRecDepth 100000 in
set_option maxHeartbeats 8000000 in
theorem far_w (l : List HS) (hl : l.all okS = true) (hn6 : l.length ≤ 6) (g : HE) (gg : GoodE g) (kg k n : Nat) (m : Mem) (hk : kg < n) (hk800 : k ≤ 800) (hg : GoalAt g kg m) :
    CWp Try.prog 66 [.agg [.d (boxD l)], reachF kg, .d (iD k)] n m fun y n' m' => n ≤ n' ∧ (∀ j, j < n → m' j = m j) ∧ y = .agg (rowS (farR l g k)) := by
  have o1 : ¬ n = n + 1 + 1 := by omega
  have o2 : ¬ n = n + 1 + 1 + 1 := by omega
  refine cwpK tabOk Try.func66 rfl rfl (show 3 ≤ _ by decide) rfl fun _ => ?_; simp only [Try.ntmps66]
  repeat (first | (with_reducible first | refine AWi.seqK fun _ => ?_ | refine AWi.blockK fun _ => ?_ | refine KI.go ?_) | ((first | refine AWi.region tabOk ?_ | refine AWi.condK fun _ _ => ?_ | refine AWi.draws tabOk rfl (by kernel_rfl) (by kernel_rfl) ?_); simp [-getElem?_pos, z0, z1, z2, o1, o2]) | ((first | refine AWi.ret ?_ | refine AWi.skip ?_ | refine AWi.exit ?_); try simp only [thenP]) | (with_reducible refine BB.go ?_; simp only [blockP, thenP, reduceIte]) | (with_reducible refine And.intro (okLog_c (by simp [footOf, guardSlot, slotsOf, idsRead, looks, idsOf, idsOf1, idsWritten, colF]; kernel_rfl)) ?_))
  refine ExecI.callC (widen_w l kg _ _) rfl (by simp [calleeS, evList]) ?_
  rintro y n1 m1 ⟨hn1, rfl, rfl⟩
  simp
  repeat (first | (with_reducible first | refine AWi.seqK fun _ => ?_ | refine AWi.blockK fun _ => ?_ | refine KI.go ?_) | ((first | refine AWi.region tabOk ?_ | refine AWi.condK fun _ _ => ?_ | refine AWi.draws tabOk rfl (by kernel_rfl) (by kernel_rfl) ?_); simp [-getElem?_pos, z0, z1, z2, z0]) | ((first | refine AWi.ret ?_ | refine AWi.skip ?_ | refine AWi.exit ?_); try simp only [thenP]) | (with_reducible refine BB.go ?_; simp only [blockP, thenP, reduceIte]) | (with_reducible refine And.intro (okLog_c (by simp [footOf, guardSlot, slotsOf, idsRead, looks, idsOf, idsOf1, idsWritten, colF]; kernel_rfl)) ?_))
  have hz7 : ∀ f : Nat → Int, (rowS f).length = 7 := fun f => by simp
  refine AWi.iterK (widen1_w l hl hn6 g gg kg (n + 1 + 1 + 1 + 1 + 1 + 1 + 1) (n + 1 + 1 + 1 + 1 + 1 + 1)) rfl (fun _ => rfl) (fun _ h => by cases h) rfl (by intro z hz; obtain ⟨x, _, rfl⟩ := List.mem_map.1 hz; rfl)
    (fun i mm => (∀ j, j < n → mm j = m j) ∧ mm (n + 1) = some (.box 3 [.d (iD ((k : Int) - i))] false) ∧ i ≤ k ∧ mm (n + 1 + 1) = some (.box 83 (rowS fun _ => 0) false) ∧ mm (n + 1 + 1 + 1) = some (.box 83 (rowS (if i = 0 then fun _ => 0 else (rowsG l g).getD (i - 1) fun _ => 0)) false) ∧ mm (n + 1 + 1 + 1 + 1 + 1 + 1) = some (.box 65 [.d (boxD l)] false) ∧ mm (n + 1 + 1 + 1 + 1 + 1 + 1 + 1) = some (.box 59 [reachF kg] false))
    (fun c mm => c = .exit 0 ∧ (∀ j, j < n → mm j = m j) ∧ mm (n + 1 + 1) = some (.box 83 (rowS fun _ => 0) false) ∧ mm (n + 1 + 1 + 1) = some (.box 83 (rowS (farR l g k)) false)) ?_ ?_ (fun i mm h => ⟨⟨_, h.2.2.2.2.2.2⟩, ⟨_, h.2.2.2.2.2.1⟩, by obtain ⟨zg, hz⟩ := hg; exact ⟨zg, (h.1 kg hk).trans hz⟩⟩) ?_ ?_ ?_ ?_
  · rintro i mm mm' h ⟨h1, h2, h3, h4, h5, h6, h7⟩
    exact ⟨fun j hj => (h j (by omega)).trans (h1 j hj), (h _ (by omega)).trans h2, h3, (h _ (by omega)).trans h4, (h _ (by omega)).trans h5, (h _ (by omega)).trans h6, (h _ (by omega)).trans h7⟩
  · rintro c mm mm' h ⟨h0, h1, h4, h5⟩
    exact ⟨h0, fun j hj => (h j (by omega)).trans (h1 j hj), (h _ (by omega)).trans h4, (h _ (by omega)).trans h5⟩
  · refine ⟨fun j hj => ?_, ?_, by omega, ?_, ?_, ?_, ?_⟩
    · simp [show ¬ j = n by omega, show ¬ j = n + 1 by omega, show ¬ j = n + 1 + 1 by omega, show ¬ j = n + 1 + 1 + 1 by omega, show ¬ j = n + 1 + 1 + 1 + 1 + 1 + 1 by omega, show ¬ j = n + 1 + 1 + 1 + 1 + 1 + 1 + 1 by omega]
    · simp
    · simp; rfl
    · simp; rfl
    · simp
    · simp
  · rintro i n2 m2 z hz hn2 ⟨h1, h2, h3, h4, h5, h6, h7⟩ kk
    rw [List.getElem?_map, Option.map_eq_some_iff] at hz
    obtain ⟨r, hr, rfl⟩ := hz
    repeat (first | (with_reducible first | refine AWi.seqK fun _ => ?_ | refine AWi.blockK fun _ => ?_ | refine KI.go ?_) | ((first | refine AWi.region tabOk ?_ | refine AWi.condK fun _ _ => ?_ | refine AWi.draws tabOk rfl (by kernel_rfl) (by kernel_rfl) ?_); simp [-getElem?_pos, z0, z1, z2, putAll]) | ((first | refine AWi.ret ?_ | refine AWi.skip ?_ | refine AWi.exit ?_); try simp only [thenP]) | (with_reducible refine BB.go ?_; simp only [blockP, thenP, reduceIte]) | (with_reducible refine And.intro (okLog_c (by simp [footOf, guardSlot, slotsOf, idsRead, looks, idsOf, idsOf1, idsWritten, colF]; kernel_rfl)) ?_))
    refine RB.go (by omega) (fun j hj => by simp [show ¬ j = n2 by omega]) fun rc hrc qq => ?_
    have f0 : ¬ n2 = n1 := by omega
    have f1 : ¬ n + 1 = n1 := by omega
    have f2 : ¬ n + 1 = n2 := by omega
    have f3 : ¬ n + 1 + 1 + 1 = n1 := by omega
    have f4 : ¬ n + 1 + 1 + 1 = n2 := by omega
    have f5 : ¬ n + 1 + 1 = n1 := by omega
    have f6 : ¬ n + 1 + 1 = n2 := by omega
    have f7 : ¬ n = n1 := by omega
    have f8 : ¬ n = n2 := by omega
    have w1 : IntKind.i64.wrap ((k : Int) - i - 1) = (k : Int) - i - 1 := wrap64_in (by omega)
    have hlen := (List.getElem?_eq_some_iff.1 hr).1
    by_cases hki : k = i
    · have hki0 : (k : Int) - i = 0 := by omega
      rw [hki0] at h2
      have hfar : farR l g k = r := by
        have : min k ((rowsG l g).length - 1) = i := by show min k ((rowsW l (firstR g)).length - 1) = i; omega
        rw [farR, this, List.getD_eq_getElem?_getD]
        show ((rowsW l (firstR g))[i]?).getD _ = r
        rw [hr]; rfl
      repeat (first | (with_reducible first | refine AWi.seqK fun _ => ?_ | refine AWi.blockK fun _ => ?_ | refine KI.go ?_) | ((first | refine AWi.region tabOk ?_ | refine AWi.condK fun _ _ => ?_ | refine AWi.draws tabOk rfl (by kernel_rfl) (by kernel_rfl) ?_); simp [-getElem?_pos, z0, z1, z2, h2, h5, f0, f1, f2, f3, f4]) | ((first | refine AWi.ret ?_ | refine AWi.skip ?_ | refine AWi.exit ?_); try simp only [thenP]) | (with_reducible refine BB.go ?_; simp only [blockP, thenP, reduceIte]) | (with_reducible refine And.intro (okLog_c (by simp [footOf, guardSlot, slotsOf, idsRead, looks, idsOf, idsOf1, idsWritten, colF]; kernel_rfl)) ?_))
      rw [if_neg (by decide)]
      refine RE.exit (by omega) (fun j j1 j2 => ?_) ⟨rfl, fun j hj => ?_, ?_, ?_⟩
      · simp [show ¬ j = n + 1 + 1 + 1 by omega]
      · simp [show ¬ j = n + 1 + 1 + 1 by omega, show ¬ j = n1 by omega, show ¬ j = n2 by omega]
        exact h1 j hj
      · simp [f5, f6]
        exact h4
      · simp [hfar]
    · have hki0 : ¬ (k : Int) - i = 0 := by omega
      repeat (first | (with_reducible first | refine AWi.seqK fun _ => ?_ | refine AWi.blockK fun _ => ?_ | refine KI.go ?_) | ((first | refine AWi.region tabOk ?_ | refine AWi.condK fun _ _ => ?_ | refine AWi.draws tabOk rfl (by kernel_rfl) (by kernel_rfl) ?_); simp [-getElem?_pos, z0, z1, z2, h2, h5, f0, f1, f2, f3, f4, hki0, w1]) | ((first | refine AWi.ret ?_ | refine AWi.skip ?_ | refine AWi.exit ?_); try simp only [thenP]) | (with_reducible refine BB.go ?_; simp only [blockP, thenP, reduceIte]) | (with_reducible refine And.intro (okLog_c (by simp [footOf, guardSlot, slotsOf, idsRead, looks, idsOf, idsOf1, idsWritten, colF]; kernel_rfl)) ?_))
      refine RE.normal (by omega) (fun j j1 j2 => ?_) ⟨fun j hj => ?_, ?_, by omega, ?_, ?_, ?_, ?_⟩
      · simp [show ¬ j = n + 1 + 1 + 1 by omega, show ¬ j = n + 1 by omega]
      · simp [show ¬ j = n + 1 + 1 + 1 by omega, show ¬ j = n + 1 by omega, show ¬ j = n1 by omega, show ¬ j = n2 by omega]
        exact h1 j hj
      · simp
        omega
      · simp [f5, f6]
        exact h4
      · have e : (rowsG l g)[i]? = some r := hr
        simp [List.getD_eq_getElem?_getD, e]
      · simp [show ¬ n + 1 + 1 + 1 + 1 + 1 + 1 = n1 by omega, show ¬ n + 1 + 1 + 1 + 1 + 1 + 1 = n2 by omega]
        exact h6
      · simp [show ¬ n + 1 + 1 + 1 + 1 + 1 + 1 + 1 = n1 by omega, show ¬ n + 1 + 1 + 1 + 1 + 1 + 1 + 1 = n2 by omega]
        exact h7
  · rintro n' m' hn' ⟨h1, h2, h3, h4, h5, h6, h7⟩
    rw [List.length_map] at h3 h5
    have hpos := rowsG_pos l g
    have hfar : (if (rowsW l (firstR g)).length = 0 then fun _ => 0 else (rowsG l g).getD ((rowsW l (firstR g)).length - 1) fun _ => 0) = farR l g k := by
      have e : (rowsG l g).length = (rowsW l (firstR g)).length := rfl
      rw [if_neg (by omega), farR, e, Nat.min_eq_right (by omega)]
    rw [hfar] at h5
    simp only [thenP]
    repeat (first | (with_reducible first | refine AWi.seqK fun _ => ?_ | refine AWi.blockK fun _ => ?_ | refine KI.go ?_) | ((first | refine AWi.region tabOk ?_ | refine AWi.condK fun _ _ => ?_ | refine AWi.draws tabOk rfl (by kernel_rfl) (by kernel_rfl) ?_); simp [-getElem?_pos, z0, z1, z2, h4, h5]) | ((first | refine AWi.ret ?_ | refine AWi.skip ?_ | refine AWi.exit ?_); try simp only [thenP]) | (with_reducible refine BB.go ?_; simp only [blockP, thenP, reduceIte]) | (with_reducible refine And.intro (okLog_c (by simp [footOf, guardSlot, slotsOf, idsRead, looks, idsOf, idsOf1, idsWritten, colF]; kernel_rfl)) ?_))
    refine RI.ret (xs := [.agg (rowS (farR l g k))]) (by simp [Try.results66, resSlots, resSlot, h4, h5]) ?_
    exact ⟨by omega, fun j hj => by simp [show ¬ j = n + 1 + 1 by omega]; exact h1 j hj, rfl⟩
  · rintro c n' m' hn' ⟨rfl, h1, h4, h5⟩
    simp only [afterP, thenP]
    repeat (first | (with_reducible first | refine AWi.seqK fun _ => ?_ | refine AWi.blockK fun _ => ?_ | refine KI.go ?_) | ((first | refine AWi.region tabOk ?_ | refine AWi.condK fun _ _ => ?_ | refine AWi.draws tabOk rfl (by kernel_rfl) (by kernel_rfl) ?_); simp [-getElem?_pos, z0, z1, z2, h4, h5]) | ((first | refine AWi.ret ?_ | refine AWi.skip ?_ | refine AWi.exit ?_); try simp only [thenP]) | (with_reducible refine BB.go ?_; simp only [blockP, thenP, reduceIte]) | (with_reducible refine And.intro (okLog_c (by simp [footOf, guardSlot, slotsOf, idsRead, looks, idsOf, idsOf1, idsWritten, colF]; kernel_rfl)) ?_))
    refine RI.ret (xs := [.agg (rowS (farR l g k))]) (by simp [Try.results66, resSlots, resSlot, h4, h5]) ?_
    exact ⟨by omega, fun j hj => by simp [show ¬ j = n + 1 + 1 by omega]; exact h1 j hj, rfl⟩
end Go.Proofs.Ytcmkkgdjhjpldaa.Eng

namespace Go.Proofs.Ytcmkkgdjhjpldaa.Eng
open Go.RowKit
def colC (a b c x : Nat) : Nat := if x = 2 * a + 1 ∨ x = 2 * b + 1 ∨ x = 2 * c + 1 then 3 else if x % 2 = 0 then x else 1
theorem colC_even {a b c x : Nat} (h : x % 2 = 0) : colC a b c x = x := by
  unfold colC
  rw [if_neg (by omega), if_pos h]
theorem colC_1 (a b c : Nat) : colC a b c (2 * a + 1) = 3 := if_pos (.inl rfl)
theorem colC_2 (a b c : Nat) : colC a b c (2 * b + 1) = 3 := if_pos (.inr (.inl rfl))
theorem colC_3 (a b c : Nat) : colC a b c (2 * c + 1) = 3 := if_pos (.inr (.inr rfl))
theorem colC_no {a b c i : Nat} (h1 : ¬ i = a) (h2 : ¬ i = b) (h3 : ¬ i = c) : colC a b c (2 * i + 1) = 1 := by
  unfold colC
  rw [if_neg (by omega), if_neg (by omega)]
def rowsD (rs : List (Nat → Int)) : List (List Dat) := rs.map fun r => (tab r).map iD
def RowsV (rs : List (Nat → Int)) (m : Mem) (x : SV) (lo hi : Nat) : Prop := (rs = [] ∧ x = .nilS) ∨ ∃ id, lo ≤ id ∧ id < hi ∧ x = .own id rs.length 7 ∧ m id = some (.row 83 7 (rowsD rs) false)
def CourseAt (l : List HS) (rs : List (Nat → Int)) (m : Mem) (c lo hi : Nat) : Prop := ∃ x, lo ≤ c ∧ c < hi ∧ m c = some (.box 81 [.d (boxD l), x] false) ∧ RowsV rs m x (c + 1) hi
theorem rowsFrom_le (l : List HS) : ∀ (k : Nat) (r : Nat → Int), (rowsFrom l k r).length ≤ k
  | 0, _ => Nat.le_refl _
  | k + 1, r => by
    rw [rowsFrom, List.length_cons]
    split
    · simp
    · have := rowsFrom_le l k (stepR l r); omega
def hasE (e : HE) (r : Nat → Int) : Bool := decide (e.depth < r e.burr.toNat)
def needN (l : List HS) (g e : HE) : Option Nat := (rowsG l g).findIdx? (hasE e)
structure CI (l : List HS) (g e : HE) (kg n n1 : Nat) (m : Mem) (i nn : Nat) (O : Nat → Prop) (mm : Mem) : Prop where
  le : n1 ≤ nn
  own : ∀ j, O j → n1 ≤ j
  low : ∀ j, j < n → mm j = m j
  edge : mm (n + 1) = some (.box 24 [.d (iD e.depth), .d (iD e.burr)] false)
  res : mm (n + 1 + 1) = some (.box 73 [.d (.val (.pointer none))] false)
  ok : mm (n + 1 + 1 + 1) = some (.box 4 [.d (bD false)] false)
  var : mm (n + 1 + 1 + 1 + 1 + 1 + 1 + 1) = some (.box 73 [.ptr (n + 1 + 1 + 1 + 1 + 1 + 1) 0 0] false)
  wb : mm (n + 1 + 1 + 1 + 1 + 1 + 1 + 1 + 1 + 1 + 1 + 1) = some (.box 65 [.d (boxD l)] false)
  wf : mm (n + 1 + 1 + 1 + 1 + 1 + 1 + 1 + 1 + 1 + 1 + 1 + 1) = some (.box 59 [reachF kg] false)
  rows : ∃ x, mm (n + 1 + 1 + 1 + 1 + 1 + 1) = some (.box 81 [.d (boxD l), x] false) ∧ (((rowsG l g).take i = [] ∧ x = .nilS) ∨ ∃ id, n1 ≤ id ∧ id < nn ∧ ¬ O id ∧ x = .own id ((rowsG l g).take i).length 7 ∧ mm id = some (.row 83 7 (rowsD ((rowsG l g).take i)) false))
  no : ∀ j r, j < i → (rowsG l g)[j]? = some r → hasE e r = false
theorem CI.stable {l : List HS} {g e : HE} {kg n n1 : Nat} {m : Mem} (hn1 : n + 13 ≤ n1) (i : Nat) : StableN (CI l g e kg n n1 m i) := by
  rintro nn O mm n2 O2 m' h1 h2 h3 ⟨a1, a2, a3, a4, a5, a6, a7, a8, a9, ⟨x, b1, b2⟩, a10⟩
  have hO : ∀ j, O2 j → n1 ≤ j := fun j hj => (h2 j hj).elim (a2 j) fun h => by omega
  have hl : ∀ j, j < n1 → m' j = mm j := fun j hj => h3 j (by omega) fun h => by have := hO j h; omega
  refine ⟨by omega, hO, fun j hj => (hl j (by omega)).trans (a3 j hj), (hl _ (by omega)).trans a4, (hl _ (by omega)).trans a5, (hl _ (by omega)).trans a6, (hl _ (by omega)).trans a7, (hl _ (by omega)).trans a8, (hl _ (by omega)).trans a9, ⟨x, (hl _ (by omega)).trans b1, ?_⟩, a10⟩
  rcases b2 with b2 | ⟨id, c1, c2, c3, c4, c5⟩
  · exact .inl b2
  · have : ¬ O2 id := fun h => (h2 id h).elim c3 fun h => by omega
    exact .inr ⟨id, c1, by omega, this, c4, (h3 id c2 this).trans c5⟩
structure CJ (l : List HS) (g e : HE) (n n1 : Nat) (m : Mem) (c : Code) (nn : Nat) (O : Nat → Prop) (mm : Mem) : Prop where
  le : n1 ≤ nn
  own : ∀ j, O j → n1 ≤ j
  jmp : c = .ret
  low : ∀ j, j < n → mm j = m j
  res : mm (n + 1 + 1) = some (.box 73 [.ptr (n + 1 + 1 + 1 + 1 + 1 + 1) 0 0] false)
  ok : mm (n + 1 + 1 + 1) = some (.box 4 [.d (bD true)] false)
  rows : ∃ k, needN l g e = some k ∧ ∃ x, mm (n + 1 + 1 + 1 + 1 + 1 + 1) = some (.box 81 [.d (boxD l), x] false) ∧ (((rowsG l g).take k = [] ∧ x = .nilS) ∨ ∃ id, n1 ≤ id ∧ id < nn ∧ ¬ O id ∧ x = .own id ((rowsG l g).take k).length 7 ∧ mm id = some (.row 83 7 (rowsD ((rowsG l g).take k)) false))
theorem CJ.stable {l : List HS} {g e : HE} {n n1 : Nat} {m : Mem} (hn1 : n + 13 ≤ n1) (c : Code) : StableN (CJ l g e n n1 m c) := by
  rintro nn O mm n2 O2 m' h1 h2 h3 ⟨a1, a2, a3, a4, a5, a6, ⟨k, hk, x, b1, b2⟩⟩
  have hO : ∀ j, O2 j → n1 ≤ j := fun j hj => (h2 j hj).elim (a2 j) fun h => by omega
  have hl : ∀ j, j < n1 → m' j = mm j := fun j hj => h3 j (by omega) fun h => by have := hO j h; omega
  refine ⟨by omega, hO, a3, fun j hj => (hl j (by omega)).trans (a4 j hj), (hl _ (by omega)).trans a5, (hl _ (by omega)).trans a6, k, hk, x, (hl _ (by omega)).trans b1, ?_⟩
  rcases b2 with b2 | ⟨id, c1, c2, c3, c4, c5⟩
  · exact .inl b2
  · have : ¬ O2 id := fun h => (h2 id h).elim c3 fun h => by omega
    exact .inr ⟨id, c1, by omega, this, c4, (h3 id c2 this).trans c5⟩
set_option maxRecDepth 100000 in
set_option maxHeartbeats 8000000 in
theorem course_w (l : List HS) (hl : l.all okS = true) (hn6 : l.length ≤ 6) (g : HE) (gg : GoodE g) (e : HE) (ge : GoodE e) (kg n : Nat) (m : Mem) (hk : kg < n) (hg : GoalAt g kg m) :
    CWp Try.prog 68 [.agg [.d (boxD l)], .agg [.d (iD e.depth), .d (iD e.burr)], reachF kg] n m fun y n' m' => n ≤ n' ∧ (∀ j, j < n → m' j = m j) ∧ match needN l g e with
      | some k => ∃ c, y = .tup [.ptr c 0 0, .d (bD true)] ∧ CourseAt l ((rowsG l g).take k) m' c n n'
      | none => y = .tup [.d (.val (.pointer none)), .d (bD false)] := by
  have o1 : ¬ n = n + 1 + 1 := by omega
  have o2 : ¬ n = n + 1 + 1 + 1 := by omega
  have hi708 : ∀ (i : Nat) r, (rowsG l g)[i]? = some r → i < 1000 := fun i r h => by
    have h1 := (List.getElem?_eq_some_iff.1 h).1
    have h2 : (rowsG l g).length ≤ 800 := rowsFrom_le l 800 (firstR g)
    omega
  refine cwpK tabOk Try.func68 rfl rfl (show 3 ≤ _ by decide) rfl fun _ => ?_; simp only [Try.ntmps68]
  repeat (first | (with_reducible first | refine AWi.seqK fun _ => ?_ | refine AWi.blockK fun _ => ?_ | refine KI.go ?_) | ((first | refine AWi.region tabOk ?_ | refine AWi.condK fun _ _ => ?_ | refine AWi.draws tabOk rfl (by kernel_rfl) (by kernel_rfl) ?_); simp [-getElem?_pos, z0, z1, z2, o1, o2]) | ((first | refine AWi.ret ?_ | refine AWi.skip ?_ | refine AWi.exit ?_); try simp only [thenP]) | (with_reducible refine BB.go ?_; simp only [blockP, thenP, reduceIte]) | (with_reducible refine And.intro (okLog_c (by simp [footOf, guardSlot, slotsOf, idsRead, looks, idsOf, idsOf1, idsWritten, colF]; kernel_rfl)) ?_))
  refine ExecI.callC (widen_w l kg _ _) rfl (by simp [calleeS, evList]) ?_
  rintro y n1 m1 ⟨hn1, rfl, rfl⟩
  simp
  repeat (first | (with_reducible first | refine AWi.seqK fun _ => ?_ | refine AWi.blockK fun _ => ?_ | refine KI.go ?_) | ((first | refine AWi.region tabOk ?_ | refine AWi.condK fun _ _ => ?_ | refine AWi.draws tabOk rfl (by kernel_rfl) (by kernel_rfl) ?_); simp [-getElem?_pos, z0, z1, z2, z0]) | ((first | refine AWi.ret ?_ | refine AWi.skip ?_ | refine AWi.exit ?_); try simp only [thenP]) | (with_reducible refine BB.go ?_; simp only [blockP, thenP, reduceIte]) | (with_reducible refine And.intro (okLog_c (by simp [footOf, guardSlot, slotsOf, idsRead, looks, idsOf, idsOf1, idsWritten, colF]; kernel_rfl)) ?_))
  refine AWi.iterK2 (widen1_2 l hl hn6 g gg kg (n + 1 + 1 + 1 + 1 + 1 + 1 + 1 + 1 + 1 + 1 + 1 + 1) (n + 1 + 1 + 1 + 1 + 1 + 1 + 1 + 1 + 1 + 1 + 1)) rfl (fun _ => rfl) (fun _ h => by cases h) rfl (by intro z hz; obtain ⟨x, _, rfl⟩ := List.mem_map.1 hz; rfl)
    (fun i nn O mm => CI l g e kg n n1 m i nn O mm) (fun c nn O mm => CJ l g e n n1 m c nn O mm) (CI.stable (by omega)) (CJ.stable (by omega)) (fun i nn O mm h => ⟨⟨_, h.wf⟩, ⟨_, h.wb⟩, by obtain ⟨zg, hz⟩ := hg; exact ⟨zg, (h.low kg hk).trans hz⟩⟩) ?_ ?_ ?_ ?_
  · refine ⟨by omega, fun _ h => h.elim, fun j hj => ?_, by simp, by simp, by simp [bD], by simp, by simp, by simp, ⟨.nilS, by simp, .inl ⟨rfl, rfl⟩⟩, fun j r hj => by omega⟩
    simp [show ¬ j = n by omega, show ¬ j = n + 1 by omega, show ¬ j = n + 1 + 1 by omega, show ¬ j = n + 1 + 1 + 1 by omega, show ¬ j = n + 1 + 1 + 1 + 1 + 1 + 1 by omega, show ¬ j = n + 1 + 1 + 1 + 1 + 1 + 1 + 1 by omega, show ¬ j = n + 1 + 1 + 1 + 1 + 1 + 1 + 1 + 1 + 1 + 1 + 1 by omega, show ¬ j = n + 1 + 1 + 1 + 1 + 1 + 1 + 1 + 1 + 1 + 1 + 1 + 1 by omega]
  · rintro i n2 O m2 z hz hn2 hOn hci kk
    rw [List.getElem?_map, Option.map_eq_some_iff] at hz
    obtain ⟨r, hr, rfl⟩ := hz
    have hr' : (rowsG l g)[i]? = some r := hr
    repeat (first | (with_reducible first | refine AWi.seqK fun _ => ?_ | refine AWi.blockK fun _ => ?_ | refine KI.go ?_) | ((first | refine AWi.region tabOk ?_ | refine AWi.condK fun _ _ => ?_ | refine AWi.draws tabOk rfl (by kernel_rfl) (by kernel_rfl) ?_); simp [-getElem?_pos, z0, z1, z2, putAll]) | ((first | refine AWi.ret ?_ | refine AWi.skip ?_ | refine AWi.exit ?_); try simp only [thenP]) | (with_reducible refine BB.go ?_; simp only [blockP, thenP, reduceIte]) | (with_reducible refine And.intro (okLog_c (by simp [footOf, guardSlot, slotsOf, idsRead, looks, idsOf, idsOf1, idsWritten, colF]; kernel_rfl)) ?_))
    refine RB2.go (by omega) (fun j hj => by simp [show ¬ j = n2 by omega]) fun rc hrc qq => ?_
    have hle2 := hci.le
    have f0 : ¬ n2 = n1 := by omega
    have f1 : ¬ n + 1 = n1 := by omega
    have f2 : ¬ n + 1 = n2 := by omega
    have f3 : ¬ n + 1 + 1 + 1 + 1 + 1 + 1 + 1 = n1 := by omega
    have f4 : ¬ n + 1 + 1 + 1 + 1 + 1 + 1 + 1 = n2 := by omega
    have f5 : ¬ n + 1 + 1 + 1 + 1 + 1 + 1 = n1 := by omega
    have f6 : ¬ n + 1 + 1 + 1 + 1 + 1 + 1 = n2 := by omega
    have h1 := hci.edge
    have h7 := hci.var
    have ch := has_c r e ge
    obtain ⟨x, hx1, hx2⟩ := hci.rows
    repeat (first | (with_reducible first | refine AWi.seqK fun _ => ?_ | refine AWi.blockK fun _ => ?_ | refine KI.go ?_) | ((first | refine AWi.region tabOk ?_ | refine AWi.condK fun _ _ => ?_ | refine AWi.draws tabOk rfl (by kernel_rfl) (by kernel_rfl) ?_); simp [-getElem?_pos, z0, z1, z2, h1, f0, f1, f2]) | ((first | refine AWi.ret ?_ | refine AWi.skip ?_ | refine AWi.exit ?_); try simp only [thenP]) | (with_reducible refine BB.go ?_; simp only [blockP, thenP, reduceIte]) | (with_reducible refine And.intro (okLog_c (by simp [footOf, guardSlot, slotsOf, idsRead, looks, idsOf, idsOf1, idsWritten, colF]; kernel_rfl)) ?_))
    refine ExecI.call [] ch ?_ rfl ?_ ?_; (focus simp [-getElem?_pos, h1, f0, f1, f2]); (focus simp [-getElem?_pos, z0, z1, z2, h1, f0, f1, f2]); simp [-getElem?_pos, z0, z1, z2, h1, f0, f1, f2]
    rcases hb : hasE e r
    · have hb' : decide (e.depth < r e.burr.toNat) = false := hb
      rcases hx2 with ⟨hx3, rfl⟩ | ⟨id, d1, d2, d3, rfl, d5⟩
      · have hlen := (List.getElem?_eq_some_iff.1 hr').1
        have hi0 : i = 0 := by have := congrArg List.length hx3; rw [List.length_take, List.length_nil] at this; omega
        have g1 : ¬ n = n2 + 6 := by omega
        have g2 : ¬ n = n2 + 5 := by omega
        repeat (first | (with_reducible first | refine AWi.seqK fun _ => ?_ | refine AWi.blockK fun _ => ?_ | refine KI.go ?_) | ((first | refine AWi.region tabOk ?_ | refine AWi.condK fun _ _ => ?_ | refine AWi.draws tabOk rfl (by kernel_rfl) (by kernel_rfl) ?_); simp [-getElem?_pos, z0, z1, z2, hb', h7, hx1, f0, f3, f4, f5, f6, g1, g2]) | ((first | refine AWi.ret ?_ | refine AWi.skip ?_ | refine AWi.exit ?_); try simp only [thenP]) | (with_reducible refine BB.go ?_; simp only [blockP, thenP, reduceIte]))
        refine And.intro (okLog_by (colC (n2 + 1 + 1 + 1 + 1 + 1 + 1 + 1 + 1 + 1 + 1 + 1) (n2 + 1 + 1 + 1 + 1 + 1 + 1 + 1 + 1 + 1 + 1 + 1 + 1) (n2 + 1 + 1 + 1 + 1 + 1 + 1 + 1 + 1 + 1 + 1 + 1 + 1)) (by simp only [List.map_cons, List.map_nil, List.map_append, List.nil_append, List.cons_append, colBy, colC_even, colC_1, colC_2, colC_3, Nat.reduceMod, not_false_eq_true, colC_no (show ¬ n + 1 + 1 + 1 + 1 + 1 + 1 + 1 = n2 + 1 + 1 + 1 + 1 + 1 + 1 + 1 + 1 + 1 + 1 + 1 by omega) (show ¬ n + 1 + 1 + 1 + 1 + 1 + 1 + 1 = n2 + 1 + 1 + 1 + 1 + 1 + 1 + 1 + 1 + 1 + 1 + 1 + 1 by omega) (show ¬ n + 1 + 1 + 1 + 1 + 1 + 1 + 1 = n2 + 1 + 1 + 1 + 1 + 1 + 1 + 1 + 1 + 1 + 1 + 1 + 1 by omega), colC_no (show ¬ n + 1 + 1 + 1 + 1 + 1 + 1 = n2 + 1 + 1 + 1 + 1 + 1 + 1 + 1 + 1 + 1 + 1 + 1 by omega) (show ¬ n + 1 + 1 + 1 + 1 + 1 + 1 = n2 + 1 + 1 + 1 + 1 + 1 + 1 + 1 + 1 + 1 + 1 + 1 + 1 by omega) (show ¬ n + 1 + 1 + 1 + 1 + 1 + 1 = n2 + 1 + 1 + 1 + 1 + 1 + 1 + 1 + 1 + 1 + 1 + 1 + 1 by omega), colC_no (show ¬ n2 = n2 + 1 + 1 + 1 + 1 + 1 + 1 + 1 + 1 + 1 + 1 + 1 by omega) (show ¬ n2 = n2 + 1 + 1 + 1 + 1 + 1 + 1 + 1 + 1 + 1 + 1 + 1 + 1 by omega) (show ¬ n2 = n2 + 1 + 1 + 1 + 1 + 1 + 1 + 1 + 1 + 1 + 1 + 1 + 1 by omega)]; kernel_rfl)) ?_
        repeat (first | (with_reducible first | refine AWi.seqK fun _ => ?_ | refine AWi.blockK fun _ => ?_ | refine KI.go ?_) | ((first | refine AWi.region tabOk ?_ | refine AWi.condK fun _ _ => ?_ | refine AWi.draws tabOk rfl (by kernel_rfl) (by kernel_rfl) ?_); simp [-getElem?_pos, z0, z1, z2, z0]) | ((first | refine AWi.ret ?_ | refine AWi.skip ?_ | refine AWi.exit ?_); try simp only [thenP]) | (with_reducible refine BB.go ?_; simp only [blockP, thenP, reduceIte]) | (with_reducible refine And.intro (okLog_c (by simp [footOf, guardSlot, slotsOf, idsRead, looks, idsOf, idsOf1, idsWritten, colF]; kernel_rfl)) ?_))
        have htk : (rowsG l g).take (i + 1) = (rowsG l g).take i ++ [r] := by rw [List.take_add_one, hr']; rfl
        have hno : ∀ j r', j < i + 1 → (rowsG l g)[j]? = some r' → hasE e r' = false := fun j r' hj h => by
          by_cases hji : j = i
          · subst hji; rw [hr'] at h; cases h; exact hb
          · exact hci.no j r' (by omega) h
        have own := hci.own
        have hN : ∀ k : Nat, ¬ n = n2 + k := fun k => by omega
        have hN0 : ¬ n = n2 := by omega
        have hN6 : ¬ n2 + 1 + 1 + 1 + 1 + 1 + 1 = n := by omega
        refine RE2.normal (by omega) (fun j hj => ?_) ⟨by omega, hci.own, fun j hj => ?_, ?_, ?_, ?_, ?_, ?_, ?_, ⟨.own (n2 + 1 + 1 + 1 + 1 + 1 + 1 + 1 + 1 + 1 + 1 + 1 + 1) (i + 1) 7, by simp [hi0], .inr ⟨n2 + 1 + 1 + 1 + 1 + 1 + 1 + 1 + 1 + 1 + 1 + 1 + 1, by omega, by omega, fun h => by have := hOn _ h; omega, by rw [htk, List.length_append, hx3, hi0]; rfl, ?_⟩⟩, hno⟩
        · have h8 := hOn j hj
          have h9 := own j hj
          simp [hN, hN0, hN6, f2, show ¬ j = n + 1 + 1 + 1 + 1 + 1 + 1 by omega, show ¬ j = n2 + 1 + 1 + 1 + 1 + 1 + 1 + 1 + 1 + 1 + 1 + 1 by omega, show ¬ j = n2 + 1 + 1 + 1 + 1 + 1 + 1 + 1 + 1 + 1 + 1 + 1 + 1 by omega]
        · simp [hN, hN0, hN6, f2, show ¬ j = n + 1 + 1 + 1 + 1 + 1 + 1 by omega, show ¬ j = n2 + 1 + 1 + 1 + 1 + 1 + 1 + 1 + 1 + 1 + 1 + 1 by omega, show ¬ j = n2 + 1 + 1 + 1 + 1 + 1 + 1 + 1 + 1 + 1 + 1 + 1 + 1 by omega, show ¬ j = n1 by omega, show ¬ j = n2 by omega]
          exact hci.low j hj
        · simp [hN, hN0, hN6, f2, show ¬ n + 1 = n + 1 + 1 + 1 + 1 + 1 + 1 by omega, show ¬ n + 1 = n2 + 1 + 1 + 1 + 1 + 1 + 1 + 1 + 1 + 1 + 1 + 1 by omega, show ¬ n + 1 = n2 + 1 + 1 + 1 + 1 + 1 + 1 + 1 + 1 + 1 + 1 + 1 + 1 by omega, show ¬ n + 1 = n1 by omega, show ¬ n + 1 = n2 by omega]
          exact hci.edge
        · simp [hN, hN0, hN6, f2, show ¬ n + 1 + 1 = n + 1 + 1 + 1 + 1 + 1 + 1 by omega, show ¬ n + 1 + 1 = n2 + 1 + 1 + 1 + 1 + 1 + 1 + 1 + 1 + 1 + 1 + 1 by omega, show ¬ n + 1 + 1 = n2 + 1 + 1 + 1 + 1 + 1 + 1 + 1 + 1 + 1 + 1 + 1 + 1 by omega, show ¬ n + 1 + 1 = n1 by omega, show ¬ n + 1 + 1 = n2 by omega]
          exact hci.res
        · simp [hN, hN0, hN6, f2, show ¬ n + 1 + 1 + 1 = n + 1 + 1 + 1 + 1 + 1 + 1 by omega, show ¬ n + 1 + 1 + 1 = n2 + 1 + 1 + 1 + 1 + 1 + 1 + 1 + 1 + 1 + 1 + 1 by omega, show ¬ n + 1 + 1 + 1 = n2 + 1 + 1 + 1 + 1 + 1 + 1 + 1 + 1 + 1 + 1 + 1 + 1 by omega, show ¬ n + 1 + 1 + 1 = n1 by omega, show ¬ n + 1 + 1 + 1 = n2 by omega]
          exact hci.ok
        · simp [hN, hN0, hN6, f2, show ¬ n + 1 + 1 + 1 + 1 + 1 + 1 + 1 = n + 1 + 1 + 1 + 1 + 1 + 1 by omega, show ¬ n + 1 + 1 + 1 + 1 + 1 + 1 + 1 = n2 + 1 + 1 + 1 + 1 + 1 + 1 + 1 + 1 + 1 + 1 + 1 by omega, show ¬ n + 1 + 1 + 1 + 1 + 1 + 1 + 1 = n2 + 1 + 1 + 1 + 1 + 1 + 1 + 1 + 1 + 1 + 1 + 1 + 1 by omega, show ¬ n + 1 + 1 + 1 + 1 + 1 + 1 + 1 = n1 by omega, show ¬ n + 1 + 1 + 1 + 1 + 1 + 1 + 1 = n2 by omega]
          exact hci.var
        · simp [hN, hN0, hN6, f2, show ¬ n + 1 + 1 + 1 + 1 + 1 + 1 + 1 + 1 + 1 + 1 + 1 = n + 1 + 1 + 1 + 1 + 1 + 1 by omega, show ¬ n + 1 + 1 + 1 + 1 + 1 + 1 + 1 + 1 + 1 + 1 + 1 = n2 + 1 + 1 + 1 + 1 + 1 + 1 + 1 + 1 + 1 + 1 + 1 by omega, show ¬ n + 1 + 1 + 1 + 1 + 1 + 1 + 1 + 1 + 1 + 1 + 1 = n2 + 1 + 1 + 1 + 1 + 1 + 1 + 1 + 1 + 1 + 1 + 1 + 1 by omega, show ¬ n + 1 + 1 + 1 + 1 + 1 + 1 + 1 + 1 + 1 + 1 + 1 = n1 by omega, show ¬ n + 1 + 1 + 1 + 1 + 1 + 1 + 1 + 1 + 1 + 1 + 1 = n2 by omega]
          exact hci.wb
        · simp [hN, hN0, hN6, f2, show ¬ n + 1 + 1 + 1 + 1 + 1 + 1 + 1 + 1 + 1 + 1 + 1 + 1 = n + 1 + 1 + 1 + 1 + 1 + 1 by omega, show ¬ n + 1 + 1 + 1 + 1 + 1 + 1 + 1 + 1 + 1 + 1 + 1 + 1 = n2 + 1 + 1 + 1 + 1 + 1 + 1 + 1 + 1 + 1 + 1 + 1 by omega, show ¬ n + 1 + 1 + 1 + 1 + 1 + 1 + 1 + 1 + 1 + 1 + 1 + 1 = n2 + 1 + 1 + 1 + 1 + 1 + 1 + 1 + 1 + 1 + 1 + 1 + 1 by omega, show ¬ n + 1 + 1 + 1 + 1 + 1 + 1 + 1 + 1 + 1 + 1 + 1 + 1 = n1 by omega, show ¬ n + 1 + 1 + 1 + 1 + 1 + 1 + 1 + 1 + 1 + 1 + 1 + 1 = n2 by omega]
          exact hci.wf
        · simp [hN, hN0, hN6, f2, show ¬ n2 + 1 + 1 + 1 + 1 + 1 + 1 + 1 + 1 + 1 + 1 + 1 + 1 = n1 by omega, show ¬ n2 + 1 + 1 + 1 + 1 + 1 + 1 + 1 + 1 + 1 + 1 + 1 + 1 = n2 by omega, show ¬ n2 + 1 + 1 + 1 + 1 + 1 + 1 + 1 + 1 + 1 + 1 + 1 + 1 = n + 1 + 1 + 1 + 1 + 1 + 1 by omega]
          rw [htk, hx3]; rfl
      · have hlen := (List.getElem?_eq_some_iff.1 hr').1
        have htl : ((rowsG l g).take i).length = i := by rw [List.length_take]; omega
        have hrl : (rowsD ((rowsG l g).take i)).length = i := by rw [rowsD, List.length_map, htl]
        have hmin : min i (rowsG l g).length = i := by omega
        have h708 : i < 1000 := hi708 i r hr'
        have hfit : fitsB (i + 1) 56 = true := fitsB_small (by omega) (by omega)
        have e1 : ¬ id = n2 + 1 + 1 + 1 + 1 + 1 + 1 + 1 + 1 + 1 + 1 + 1 := by omega
        have e2 : ¬ id = n1 := fun h => d3 (.inr h)
        have e3 : ¬ id = n2 := by omega
        have g1 : ¬ n = n2 + 6 := by omega
        have g2 : ¬ n = n2 + 5 := by omega
        have g3 : ¬ n + 1 + 1 + 1 + 1 + 1 + 1 = id := by omega
        rw [htl] at hx1
        repeat (first | (with_reducible first | refine AWi.seqK fun _ => ?_ | refine AWi.blockK fun _ => ?_ | refine KI.go ?_) | ((first | refine AWi.region tabOk ?_ | refine AWi.condK fun _ _ => ?_ | refine AWi.draws tabOk rfl (by kernel_rfl) (by kernel_rfl) ?_); simp [-getElem?_pos, z0, z1, z2, hb', h7, hx1, d5, f0, f3, f4, f5, f6, g1, g2, g3, e1, e2, e3, hmin, hrl, hfit]) | ((first | refine AWi.ret ?_ | refine AWi.skip ?_ | refine AWi.exit ?_); try simp only [thenP]) | (with_reducible refine BB.go ?_; simp only [blockP, thenP, reduceIte]))
        refine And.intro (okLog_by (colC (n2 + 1 + 1 + 1 + 1 + 1 + 1 + 1 + 1 + 1 + 1 + 1) (n2 + 1 + 1 + 1 + 1 + 1 + 1 + 1 + 1 + 1 + 1 + 1 + 1) id) (by simp only [List.map_cons, List.map_nil, List.map_append, List.nil_append, List.cons_append, colBy, colC_even, colC_1, colC_2, colC_3, Nat.reduceMod, not_false_eq_true, colC_no (show ¬ n + 1 + 1 + 1 + 1 + 1 + 1 + 1 = n2 + 1 + 1 + 1 + 1 + 1 + 1 + 1 + 1 + 1 + 1 + 1 by omega) (show ¬ n + 1 + 1 + 1 + 1 + 1 + 1 + 1 = n2 + 1 + 1 + 1 + 1 + 1 + 1 + 1 + 1 + 1 + 1 + 1 + 1 by omega) (show ¬ n + 1 + 1 + 1 + 1 + 1 + 1 + 1 = id by omega), colC_no (show ¬ n + 1 + 1 + 1 + 1 + 1 + 1 = n2 + 1 + 1 + 1 + 1 + 1 + 1 + 1 + 1 + 1 + 1 + 1 by omega) (show ¬ n + 1 + 1 + 1 + 1 + 1 + 1 = n2 + 1 + 1 + 1 + 1 + 1 + 1 + 1 + 1 + 1 + 1 + 1 + 1 by omega) (show ¬ n + 1 + 1 + 1 + 1 + 1 + 1 = id by omega), colC_no (show ¬ n2 = n2 + 1 + 1 + 1 + 1 + 1 + 1 + 1 + 1 + 1 + 1 + 1 by omega) (show ¬ n2 = n2 + 1 + 1 + 1 + 1 + 1 + 1 + 1 + 1 + 1 + 1 + 1 + 1 by omega) (show ¬ n2 = id by omega)]; kernel_rfl)) ?_
        repeat (first | (with_reducible first | refine AWi.seqK fun _ => ?_ | refine AWi.blockK fun _ => ?_ | refine KI.go ?_) | ((first | refine AWi.region tabOk ?_ | refine AWi.condK fun _ _ => ?_ | refine AWi.draws tabOk rfl (by kernel_rfl) (by kernel_rfl) ?_); simp [-getElem?_pos, z0, z1, z2, z0]) | ((first | refine AWi.ret ?_ | refine AWi.skip ?_ | refine AWi.exit ?_); try simp only [thenP]) | (with_reducible refine BB.go ?_; simp only [blockP, thenP, reduceIte]) | (with_reducible refine And.intro (okLog_c (by simp [footOf, guardSlot, slotsOf, idsRead, looks, idsOf, idsOf1, idsWritten, colF]; kernel_rfl)) ?_))
        have htk : (rowsG l g).take (i + 1) = (rowsG l g).take i ++ [r] := by rw [List.take_add_one, hr']; rfl
        have hno : ∀ j r', j < i + 1 → (rowsG l g)[j]? = some r' → hasE e r' = false := fun j r' hj h => by
          by_cases hji : j = i
          · subst hji; rw [hr'] at h; cases h; exact hb
          · exact hci.no j r' (by omega) h
        have own := hci.own
        have hN : ∀ k : Nat, ¬ n = n2 + k := fun k => by omega
        have hN0 : ¬ n = n2 := by omega
        have hN6 : ¬ n2 + 1 + 1 + 1 + 1 + 1 + 1 = n := by omega
        refine RE2.normal (by omega) (fun j hj => ?_) ⟨by omega, hci.own, fun j hj => ?_, ?_, ?_, ?_, ?_, ?_, ?_, ⟨.own (n2 + 1 + 1 + 1 + 1 + 1 + 1 + 1 + 1 + 1 + 1 + 1 + 1) (i + 1) 7, by simp, .inr ⟨n2 + 1 + 1 + 1 + 1 + 1 + 1 + 1 + 1 + 1 + 1 + 1 + 1, by omega, by omega, fun h => by have := hOn _ h; omega, by rw [htk, List.length_append, htl]; rfl, ?_⟩⟩, hno⟩
        · have h8 := hOn j hj
          have h9 := own j hj
          simp [hN, hN0, hN6, f2, show ¬ j = n + 1 + 1 + 1 + 1 + 1 + 1 by omega, show ¬ j = n2 + 1 + 1 + 1 + 1 + 1 + 1 + 1 + 1 + 1 + 1 + 1 by omega, show ¬ j = n2 + 1 + 1 + 1 + 1 + 1 + 1 + 1 + 1 + 1 + 1 + 1 + 1 by omega, show ¬ j = id from fun h => d3 (h ▸ hj)]
        · simp [hN, hN0, hN6, f2, show ¬ j = n + 1 + 1 + 1 + 1 + 1 + 1 by omega, show ¬ j = n2 + 1 + 1 + 1 + 1 + 1 + 1 + 1 + 1 + 1 + 1 + 1 by omega, show ¬ j = n2 + 1 + 1 + 1 + 1 + 1 + 1 + 1 + 1 + 1 + 1 + 1 + 1 by omega, show ¬ j = n1 by omega, show ¬ j = n2 by omega, show ¬ j = id by omega]
          exact hci.low j hj
        · simp [hN, hN0, hN6, f2, show ¬ n + 1 = n + 1 + 1 + 1 + 1 + 1 + 1 by omega, show ¬ n + 1 = n2 + 1 + 1 + 1 + 1 + 1 + 1 + 1 + 1 + 1 + 1 + 1 by omega, show ¬ n + 1 = n2 + 1 + 1 + 1 + 1 + 1 + 1 + 1 + 1 + 1 + 1 + 1 + 1 by omega, show ¬ n + 1 = n1 by omega, show ¬ n + 1 = n2 by omega, show ¬ n + 1 = id by omega]
          exact hci.edge
        · simp [hN, hN0, hN6, f2, show ¬ n + 1 + 1 = n + 1 + 1 + 1 + 1 + 1 + 1 by omega, show ¬ n + 1 + 1 = n2 + 1 + 1 + 1 + 1 + 1 + 1 + 1 + 1 + 1 + 1 + 1 by omega, show ¬ n + 1 + 1 = n2 + 1 + 1 + 1 + 1 + 1 + 1 + 1 + 1 + 1 + 1 + 1 + 1 by omega, show ¬ n + 1 + 1 = n1 by omega, show ¬ n + 1 + 1 = n2 by omega, show ¬ n + 1 + 1 = id by omega]
          exact hci.res
        · simp [hN, hN0, hN6, f2, show ¬ n + 1 + 1 + 1 = n + 1 + 1 + 1 + 1 + 1 + 1 by omega, show ¬ n + 1 + 1 + 1 = n2 + 1 + 1 + 1 + 1 + 1 + 1 + 1 + 1 + 1 + 1 + 1 by omega, show ¬ n + 1 + 1 + 1 = n2 + 1 + 1 + 1 + 1 + 1 + 1 + 1 + 1 + 1 + 1 + 1 + 1 by omega, show ¬ n + 1 + 1 + 1 = n1 by omega, show ¬ n + 1 + 1 + 1 = n2 by omega, show ¬ n + 1 + 1 + 1 = id by omega]
          exact hci.ok
        · simp [hN, hN0, hN6, f2, show ¬ n + 1 + 1 + 1 + 1 + 1 + 1 + 1 = n + 1 + 1 + 1 + 1 + 1 + 1 by omega, show ¬ n + 1 + 1 + 1 + 1 + 1 + 1 + 1 = n2 + 1 + 1 + 1 + 1 + 1 + 1 + 1 + 1 + 1 + 1 + 1 by omega, show ¬ n + 1 + 1 + 1 + 1 + 1 + 1 + 1 = n2 + 1 + 1 + 1 + 1 + 1 + 1 + 1 + 1 + 1 + 1 + 1 + 1 by omega, show ¬ n + 1 + 1 + 1 + 1 + 1 + 1 + 1 = n1 by omega, show ¬ n + 1 + 1 + 1 + 1 + 1 + 1 + 1 = n2 by omega, show ¬ n + 1 + 1 + 1 + 1 + 1 + 1 + 1 = id by omega]
          exact hci.var
        · simp [hN, hN0, hN6, f2, show ¬ n + 1 + 1 + 1 + 1 + 1 + 1 + 1 + 1 + 1 + 1 + 1 = n + 1 + 1 + 1 + 1 + 1 + 1 by omega, show ¬ n + 1 + 1 + 1 + 1 + 1 + 1 + 1 + 1 + 1 + 1 + 1 = n2 + 1 + 1 + 1 + 1 + 1 + 1 + 1 + 1 + 1 + 1 + 1 by omega, show ¬ n + 1 + 1 + 1 + 1 + 1 + 1 + 1 + 1 + 1 + 1 + 1 = n2 + 1 + 1 + 1 + 1 + 1 + 1 + 1 + 1 + 1 + 1 + 1 + 1 by omega, show ¬ n + 1 + 1 + 1 + 1 + 1 + 1 + 1 + 1 + 1 + 1 + 1 = n1 by omega, show ¬ n + 1 + 1 + 1 + 1 + 1 + 1 + 1 + 1 + 1 + 1 + 1 = n2 by omega, show ¬ n + 1 + 1 + 1 + 1 + 1 + 1 + 1 + 1 + 1 + 1 + 1 = id by omega]
          exact hci.wb
        · simp [hN, hN0, hN6, f2, show ¬ n + 1 + 1 + 1 + 1 + 1 + 1 + 1 + 1 + 1 + 1 + 1 + 1 = n + 1 + 1 + 1 + 1 + 1 + 1 by omega, show ¬ n + 1 + 1 + 1 + 1 + 1 + 1 + 1 + 1 + 1 + 1 + 1 + 1 = n2 + 1 + 1 + 1 + 1 + 1 + 1 + 1 + 1 + 1 + 1 + 1 by omega, show ¬ n + 1 + 1 + 1 + 1 + 1 + 1 + 1 + 1 + 1 + 1 + 1 + 1 = n2 + 1 + 1 + 1 + 1 + 1 + 1 + 1 + 1 + 1 + 1 + 1 + 1 by omega, show ¬ n + 1 + 1 + 1 + 1 + 1 + 1 + 1 + 1 + 1 + 1 + 1 + 1 = n1 by omega, show ¬ n + 1 + 1 + 1 + 1 + 1 + 1 + 1 + 1 + 1 + 1 + 1 + 1 = n2 by omega, show ¬ n + 1 + 1 + 1 + 1 + 1 + 1 + 1 + 1 + 1 + 1 + 1 + 1 = id by omega]
          exact hci.wf
        · simp [hN, hN0, hN6, f2, show ¬ n2 + 1 + 1 + 1 + 1 + 1 + 1 + 1 + 1 + 1 + 1 + 1 + 1 = n1 by omega, show ¬ n2 + 1 + 1 + 1 + 1 + 1 + 1 + 1 + 1 + 1 + 1 + 1 + 1 = n2 by omega, show ¬ n2 + 1 + 1 + 1 + 1 + 1 + 1 + 1 + 1 + 1 + 1 + 1 + 1 = n + 1 + 1 + 1 + 1 + 1 + 1 by omega, show ¬ n2 + 1 + 1 + 1 + 1 + 1 + 1 + 1 + 1 + 1 + 1 + 1 + 1 = id by omega]
          rw [htk]
          simp [rowsD]
    · have hb' : decide (e.depth < r e.burr.toNat) = true := hb
      have r2 := hci.res
      have r3 := hci.ok
      have q1 : ¬ n + 1 + 1 = n1 := by omega
      have q2 : ¬ n + 1 + 1 = n2 := by omega
      have q3 : ¬ n + 1 + 1 + 1 = n1 := by omega
      have q4 : ¬ n + 1 + 1 + 1 = n2 := by omega
      repeat (first | (with_reducible first | refine AWi.seqK fun _ => ?_ | refine AWi.blockK fun _ => ?_ | refine KI.go ?_) | ((first | refine AWi.region tabOk ?_ | refine AWi.condK fun _ _ => ?_ | refine AWi.draws tabOk rfl (by kernel_rfl) (by kernel_rfl) ?_); simp [-getElem?_pos, z0, z1, z2, hb', h7, f3, f4, r2, r3, q1, q2, q3, q4]) | ((first | refine AWi.ret ?_ | refine AWi.skip ?_ | refine AWi.exit ?_); try simp only [thenP]) | (with_reducible refine BB.go ?_; simp only [blockP, thenP, reduceIte]) | (with_reducible refine And.intro (okLog_c (by simp [footOf, guardSlot, slotsOf, idsRead, looks, idsOf, idsOf1, idsWritten, colF]; kernel_rfl)) ?_))
      have own := hci.own
      have hneed : needN l g e = some i := by
        rw [needN, List.findIdx?_eq_some_iff_getElem]
        refine ⟨(List.getElem?_eq_some_iff.1 hr').1, ?_, fun j hj => ?_⟩
        · rw [(List.getElem?_eq_some_iff.1 hr').2]; exact hb
        · have := hci.no j _ hj (List.getElem?_eq_getElem (by have := (List.getElem?_eq_some_iff.1 hr').1; omega))
          rw [this]; simp
      refine RE2.ret (by omega) (fun j hj => ?_) ⟨by omega, hci.own, rfl, fun j hj => ?_, ?_, ?_, i, hneed, x, ?_, ?_⟩
      · have h8 := hOn j hj
        have h9 := own j hj
        simp [show ¬ j = n + 1 + 1 by omega, show ¬ j = n + 1 + 1 + 1 by omega]
      · simp [show ¬ j = n + 1 + 1 by omega, show ¬ j = n + 1 + 1 + 1 by omega, show ¬ j = n1 by omega, show ¬ j = n2 by omega]
        exact hci.low j hj
      · simp
      · simp [bD]
      · simp [show ¬ n + 1 + 1 + 1 + 1 + 1 + 1 = n1 by omega, show ¬ n + 1 + 1 + 1 + 1 + 1 + 1 = n2 by omega]
        exact hx1
      · rcases hx2 with hx2 | ⟨id, d1, d2, d3, d4, d5⟩
        · exact .inl hx2
        · have e2 : ¬ id = n1 := fun h => d3 (.inr h)
          refine .inr ⟨id, d1, by omega, d3, d4, ?_⟩
          simp [show ¬ id = n + 1 + 1 by omega, show ¬ id = n + 1 + 1 + 1 by omega, e2, show ¬ id = n2 by omega]
          exact d5
  · rintro n' O m' hn' hO hci
    have hnone : needN l g e = none := by
      rw [needN, List.findIdx?_eq_none_iff]
      intro r hr
      obtain ⟨j, hj⟩ := List.getElem?_of_mem hr
      exact hci.no j r (by rw [List.length_map]; exact (List.getElem?_eq_some_iff.1 hj).1) hj
    have r2 := hci.res
    have r3 := hci.ok
    simp only [thenP]
    repeat (first | (with_reducible first | refine AWi.seqK fun _ => ?_ | refine AWi.blockK fun _ => ?_ | refine KI.go ?_) | ((first | refine AWi.region tabOk ?_ | refine AWi.condK fun _ _ => ?_ | refine AWi.draws tabOk rfl (by kernel_rfl) (by kernel_rfl) ?_); simp [-getElem?_pos, z0, z1, z2, r2, r3]) | ((first | refine AWi.ret ?_ | refine AWi.skip ?_ | refine AWi.exit ?_); try simp only [thenP]) | (with_reducible refine BB.go ?_; simp only [blockP, thenP, reduceIte]) | (with_reducible refine And.intro (okLog_c (by simp [footOf, guardSlot, slotsOf, idsRead, looks, idsOf, idsOf1, idsWritten, colF]; kernel_rfl)) ?_))
    refine RI.ret (xs := [.d (.val (.pointer none)), .d (bD false)]) (by simp [Try.results68, resSlots, resSlot, r2, r3, bD]) ?_
    rw [hnone]
    exact ⟨by omega, fun j hj => by simp [show ¬ j = n + 1 + 1 by omega, show ¬ j = n + 1 + 1 + 1 by omega]; exact hci.low j hj, rfl⟩
  · rintro c n' O m' hn' hO hcj
    obtain rfl := hcj.jmp
    obtain ⟨k, hk2, x, hx1, hx2⟩ := hcj.rows
    have r2 := hcj.res
    have r3 := hcj.ok
    simp only [afterP, thenP]
    repeat (first | (with_reducible first | refine AWi.seqK fun _ => ?_ | refine AWi.blockK fun _ => ?_ | refine KI.go ?_) | ((first | refine AWi.region tabOk ?_ | refine AWi.condK fun _ _ => ?_ | refine AWi.draws tabOk rfl (by kernel_rfl) (by kernel_rfl) ?_); simp [-getElem?_pos, z0, z1, z2, r2, r3]) | ((first | refine AWi.ret ?_ | refine AWi.skip ?_ | refine AWi.exit ?_); try simp only [thenP]) | (with_reducible refine BB.go ?_; simp only [blockP, thenP, reduceIte]) | (with_reducible refine And.intro (okLog_c (by simp [footOf, guardSlot, slotsOf, idsRead, looks, idsOf, idsOf1, idsWritten, colF]; kernel_rfl)) ?_))
    refine RI.ret (xs := [.ptr (n + 1 + 1 + 1 + 1 + 1 + 1) 0 0, .d (bD true)]) (by simp [Try.results68, resSlots, resSlot, r2, r3, bD]) ?_
    rw [hk2]
    refine ⟨by omega, hcj.low, _, rfl, x, by omega, by omega, hx1, ?_⟩
    rcases hx2 with hx2 | ⟨id, d1, d2, d3, d4, d5⟩
    · exact .inl hx2
    · exact .inr ⟨id, by omega, by omega, d4, d5⟩
end Go.Proofs.Ytcmkkgdjhjpldaa.Eng

noncomputable section
namespace Go.Proofs.Ytcmkkgdjhjpldaa.Eng
open Go.RowKit
variable {P : Program} {T : Tab} {r : Option Nat} {ns : Nat}
def shiftO (k : Nat) (o : Oper) : Oper := { o with after := o.after.filterMap fun e => if e.on < k then none else some { e with on := e.on - k } }
def restO (l : List Oper) (n : Nat) : List Oper := (l.drop (n + 1)).map (shiftO (n + 1))
def midB (l : List Oper) (n : Nat) : Bool := headB l n && (Region.sinkB .any (l.take (n + 1)).toArray n && (((List.range l.length).all fun t => decide (t ≤ n) || (List.range t).any fun u => decide (n ≤ u) && Region.waitsFor .any l.toArray t u) &&
  ((l.drop (n + 1)).all (fun o => o.guard.isNone) && decide (Region.ready .any l.toArray (listedTo l.length n) = [n]))))
section
variable {F : Fence} {j n : Nat} {l : List Oper} {Q Qh : Exit → Act → World → Prop}
theorem mid_waits (hh : headB l n = true) (hs : Region.sinkB .any (l.take (n + 1)).toArray n = true) (hr : ((List.range l.length).all fun t => decide (t ≤ n) || (List.range t).any fun u => decide (n ≤ u) && Region.waitsFor .any l.toArray t u) = true) {L : Array Bool} (inv : HeadInv .any l.toArray n L) {i : Nat} (hi : i < n) (hun : L.getD i true = false) : ∀ t, n ≤ t → t ∉ Region.ready .any l.toArray L := by
  intro t ht hrd
  simp only [headB, Bool.and_eq_true, decide_eq_true_eq] at hh
  obtain ⟨_, ot, hot, hall⟩ := mem_ready.1 hrd
  have htl : t < l.length := by have := (Array.getElem?_eq_some_iff.1 hot).1; simpa using this
  by_cases htn : t = n
  · subst htn
    have hsz : (l.take (t + 1)).toArray.size = t + 1 := by simp; omega
    have inv' : HeadInv .any (l.take (t + 1)).toArray t (L.extract 0 (t + 1)) := by
      have hg : ∀ k b, k < t + 1 → (L.extract 0 (t + 1)).getD k b = L.getD k b := fun k b hk => by
        have := inv.size
        have h2 : k < L.size := by rw [this]; simp; omega
        simp [Array.getD, h2, hk, show k < min (t + 1) L.size by omega]
      refine ⟨by rw [hsz]; have := inv.size; simp at this ⊢; omega, fun k ok hk hl e he hb => ?_, fun u hu1 hu2 => ?_⟩
      · have hk2 : k < t + 1 := by have := (Array.getElem?_eq_some_iff.1 hk).1; rw [hsz] at this; exact this
        rw [take_at l hk2] at hk
        rw [hg k _ hk2] at hl
        have h3 := inv.closed k ok hk hl e he hb
        have h4 : e.on < t + 1 := by
          rcases Nat.lt_or_ge e.on (t + 1) with h | h
          · exact h
          · rcases Nat.lt_or_ge e.on l.length with h5 | h5
            · have := inv.tail e.on (by omega) (by simpa using h5)
              rw [getD_both this] at h3; cases h3
            · have h6 : ¬ e.on < L.size := by rw [inv.size]; simp; omega
              have : L.getD e.on false = false := by simp [Array.getD, h6]
              rw [this] at h3; cases h3
        rw [hg _ _ h4]
        exact h3
      · rw [hsz] at hu2
        rw [hg u _ hu2]
        exact inv.tail u hu1 (by simp; omega)
    refine tail_waits hs (by unfold Region.chainB; rw [List.all_eq_true]; intro x hx; rw [List.mem_range, hsz] at hx; simp; omega) (by rw [hsz]; omega) inv' _ i rfl hi ?_ t (Nat.le_refl _) ?_
    · have h2 : i < L.size := by rw [inv.size]; simp; omega
      have : (L.extract 0 (t + 1)).getD i true = L.getD i true := by simp [Array.getD, h2, show i < min (t + 1) L.size by omega]
      rw [this]; exact hun
    · rw [mem_ready]
      have hg : ∀ k b, k < t + 1 → (L.extract 0 (t + 1)).getD k b = L.getD k b := fun k b hk => by
        have := inv.size
        have h2 : k < L.size := by rw [this]; simp; omega
        simp [Array.getD, h2, hk, show k < min (t + 1) L.size by omega]
      refine ⟨by rw [hg _ _ (by omega)]; exact (mem_ready.1 hrd).1, ot, by rw [take_at l (by omega)]; exact hot, fun e he hb => ?_⟩
      have h3 := hall e he hb
      have h4 : e.on < t + 1 := by
        rcases Nat.lt_or_ge e.on (t + 1) with h | h
        · exact h
        · rcases Nat.lt_or_ge e.on l.length with h5 | h5
          · have := inv.tail e.on (by omega) (by simpa using h5)
            rw [getD_both this] at h3; cases h3
          · have h6 : ¬ e.on < L.size := by rw [inv.size]; simp; omega
            have : L.getD e.on false = false := by simp [Array.getD, h6]
            rw [this] at h3; cases h3
      rw [hg _ _ h4]
      exact h3
  · have h1 := List.all_eq_true.1 hr t (List.mem_range.2 htl)
    rw [Bool.or_eq_true, decide_eq_true_eq] at h1
    obtain ⟨u, hu, h2⟩ := List.any_eq_true.1 (h1.resolve_left (by omega))
    rw [Bool.and_eq_true, decide_eq_true_eq] at h2
    obtain ⟨oj, ho, e, he, hb, rfl⟩ := Region.waitsFor_spec h2.2
    rw [hot] at ho
    cases ho
    have h3 := hall e he hb
    have h4 : e.on < l.length := by have := List.mem_range.1 hu; omega
    rw [getD_both (inv.tail e.on h2.1 (by simpa using h4))] at h3
    cases h3
theorem wpAnyIn_mid (hB : midB l n = true) (h0 : ∀ e a w, Qh e a w → e = .normal) (hT : ∀ a w, Qh .normal a w → wpAnyIn F j P .any l.toArray Q (l.length - n) (listedTo l.length n) a w) :
    ∀ (f : Nat) (L L' : Array Bool) (a : Act) (w : World), L.size = n → HeadInv .any l.toArray n L' → (∀ i, i < n → L'.getD i true = L.getD i true) → (∀ i, i < n → L'.getD i false = L.getD i false) →
      wpAnyIn F j P .any (l.take n).toArray Qh f L a w → wpAnyIn F j P .any l.toArray Q (f + (l.length - n)) L' a w := by
  simp only [midB, Bool.and_eq_true] at hB
  obtain ⟨hh, hs, hc, _, _⟩ := hB
  have hh' := hh
  simp only [headB, Bool.and_eq_true, decide_eq_true_eq] at hh'
  obtain ⟨⟨hback, hgd⟩, hn⟩ := hh'
  have hsz : (l.take n).toArray.size = n := by simp; omega
  have done : ∀ (L L' : Array Bool) (a : Act) (w : World), L.size = n → HeadInv .any l.toArray n L' → (∀ i, i < n → L'.getD i true = L.getD i true) → Region.ready .any (l.take n).toArray L = [] → Qh .normal a w → wpAnyIn F j P .any l.toArray Q (l.length - n) L' a w := by
    intro L L' a w hLs inv hL hr hQ
    have hall := all_listed (ops := (l.take n).toArray) (listed := L) (by rw [hLs, hsz]) hback hr
    have hL' : L' = listedTo l.length n := by
      apply Array.ext
      · rw [inv.size]; simp [listedTo]
      · intro i h1 h2
        have hsz' : i < l.length := by have := inv.size; simp at this; omega
        have e1 : L'.getD i true = L'[i] := by simp [Array.getD, h1]
        rw [← e1]
        by_cases hi : i < n
        · rw [hL i hi, hall i (by rw [hsz]; exact hi)]
          simp [listedTo, hi]
        · rw [inv.tail i (by omega) (by simpa using hsz')]
          simp [listedTo, hi]
    rw [hL']
    exact hT a w hQ
  intro f
  induction f with
  | zero =>
    intro L L' a w hLs inv hL hL2 h
    rw [Nat.zero_add]
    exact done L L' a w hLs inv hL h.1 h.2
  | succ f ih =>
    intro L L' a w hLs inv hL hL2 h
    by_cases hr : Region.ready .any (l.take n).toArray L = []
    · have := wpAnyIn_more _ (f + 1) _ _ _ (done L L' a w hLs inv hL hr (h.1 hr))
      rwa [Nat.add_comm] at this
    rw [show f + 1 + (l.length - n) = (f + (l.length - n)) + 1 by omega]
    obtain ⟨i0, hi0⟩ := List.exists_mem_of_ne_nil _ hr
    have hi0n : i0 < n := by
      obtain ⟨_, o, ho, _⟩ := mem_ready.1 hi0
      have := (Array.getElem?_eq_some_iff.1 ho).1
      rw [hsz] at this
      exact this
    have hun : L'.getD i0 true = false := by rw [hL i0 hi0n]; exact (mem_ready.1 hi0).1
    refine ⟨fun h1 => ?_, fun i hi => ?_⟩
    · have := (ready_head hh hL hL2 hi0n).2 hi0
      rw [h1] at this
      cases this
    · have hin : i < n := by
        rcases Nat.lt_or_ge i n with h2 | h2
        · exact h2
        · exact absurd hi (mid_waits hh hs hc inv hi0n hun i h2)
      have hi2 := (ready_head hh hL hL2 hin).1 hi
      have hw := h.2 i hi2
      unfold wpOpIn at hw ⊢
      rw [take_at l hin] at hw
      have hset : ∀ k b, k < n → (L'.setIfInBounds i true).getD k b = (L.setIfInBounds i true).getD k b := fun k b hk => by
        by_cases hki : k = i
        · subst hki
          have h3 : k < L'.size := by rw [inv.size]; simp; omega
          simp [h3, hLs, hk]
        · rw [getD_set_ne b (Ne.symm hki), getD_set_ne b (Ne.symm hki)]
          cases b
          · exact hL2 k hk
          · exact hL k hk
      have hK : ∀ a w, wpAnyIn F j P .any (l.take n).toArray Qh f (L.setIfInBounds i true) a w → wpAnyIn F j P .any l.toArray Q (f + (l.length - n)) (L'.setIfInBounds i true) a w :=
        fun a w h => ih _ _ a w (by simp [hLs]) (inv.set hi hin) (fun k hk => hset k true hk) (fun k hk => hset k false hk) h
      split
      · rename_i ho
        rw [ho] at hw
        exact hK _ _ hw
      · rename_i o ho
        simp only [ho] at hw
        have hwant : Region.wanted o (yielded (l.take n).toArray a.tmps) = Region.wanted o (yielded l.toArray a.tmps) := by
          unfold Region.wanted
          have hmem : o ∈ l.take n := by
            have := take_at l hin
            rw [ho] at this
            exact List.mem_of_getElem? (by simpa using this)
          have hgo := List.all_eq_true.1 hgd o hmem
          cases hg : o.guard with
          | none => rfl
          | some q =>
            obtain ⟨g, b⟩ := q
            rw [hg] at hgo
            simp only [decide_eq_true_eq] at hgo
            simp only [yielded_take l hgo]
        rw [hwant] at hw
        split
        · rename_i hc
          rw [if_pos hc] at hw
          exact wpIn_from h0 (Oper.wpIn_mono hK hw)
        · rename_i hc
          rw [if_neg hc] at hw
          exact ⟨hw.1, hK _ _ hw.2⟩
theorem restO_at (l : List Oper) (n i : Nat) : (restO l n)[i]? = (l[n + 1 + i]?).map (shiftO (n + 1)) := by simp [restO, List.getElem?_drop]
theorem wpAnyIn_rest (hg : (l.drop (n + 1)).all (fun o => o.guard.isNone) = true) :
    ∀ (f : Nat) (L L' : Array Bool) (a : Act) (w : World), (∀ i, i < n + 1 → L'.getD i true = true) → (∀ i b, n + 1 + i < l.length → L'.getD (n + 1 + i) b = L.getD i b) → L'.size = l.length → L.size = (restO l n).length →
      wpAnyIn F j P .any (restO l n).toArray Q f L a w → wpAnyIn F j P .any l.toArray Q f L' a w := by
  have rdy : ∀ (L L' : Array Bool), (∀ i, i < n + 1 → L'.getD i true = true) → (∀ i b, n + 1 + i < l.length → L'.getD (n + 1 + i) b = L.getD i b) → L'.size = l.length → L.size = (restO l n).length → ∀ i, i ∈ Region.ready .any l.toArray L' ↔ ∃ i', i = n + 1 + i' ∧ i' ∈ Region.ready .any (restO l n).toArray L := by
    intro L L' h1 h2 h3 h4 i
    have hlow : ∀ k, k < n + 1 → k < l.length → L'.getD k false = true := fun k hk hkl => by
      have := h1 k hk
      have h5 : k < L'.size := by omega
      simp [Array.getD, h5] at this ⊢
      exact this
    constructor
    · intro hi
      obtain ⟨hun, o, ho, hall⟩ := mem_ready.1 hi
      have hil : i < l.length := by have := (Array.getElem?_eq_some_iff.1 ho).1; simpa using this
      have hin : n + 1 ≤ i := by
        rcases Nat.lt_or_ge i (n + 1) with h | h
        · rw [h1 i h] at hun; cases hun
        · exact h
      obtain ⟨i', rfl⟩ : ∃ i', i = n + 1 + i' := ⟨i - (n + 1), by omega⟩
      refine ⟨i', rfl, mem_ready.2 ⟨by rw [← h2 i' true hil]; exact hun, shiftO (n + 1) o, ?_, fun e he hb => ?_⟩⟩
      · have : l[n + 1 + i']? = some o := by simpa using ho
        simp [restO_at, this]
      · simp only [shiftO, Array.mem_filterMap] at he
        obtain ⟨e0, he0, h5⟩ := he
        split at h5
        · cases h5
        · rename_i hlt
          cases h5
          have h6 := hall e0 he0 hb
          have h7 : e0.on < l.length := by
            rcases Nat.lt_or_ge e0.on L'.size with h | h
            · omega
            · simp [Array.getD, show ¬ e0.on < L'.size by omega] at h6
          rw [show e0.on = n + 1 + (e0.on - (n + 1)) by omega, h2 _ _ (by omega)] at h6
          exact h6
    · rintro ⟨i', rfl, hi⟩
      obtain ⟨hun, o', ho', hall⟩ := mem_ready.1 hi
      have ho2 : (restO l n)[i']? = some o' := by simpa using ho'
      rw [restO_at, Option.map_eq_some_iff] at ho2
      obtain ⟨o, ho, rfl⟩ := ho2
      have hil := (List.getElem?_eq_some_iff.1 ho).1
      refine mem_ready.2 ⟨by rw [h2 i' true hil]; exact hun, o, by simpa using ho, fun e he hb => ?_⟩
      by_cases hlt : e.on < n + 1
      · exact hlow _ hlt (by omega)
      · have h6 := hall { e with on := e.on - (n + 1) } (by
          simp only [shiftO, Array.mem_filterMap]
          exact ⟨e, he, by simp [hlt]⟩) hb
        have h7 : n + 1 + (e.on - (n + 1)) < l.length := by
          rcases Nat.lt_or_ge (e.on - (n + 1)) L.size with h | h
          · have : (restO l n).length = l.length - (n + 1) := by simp [restO]
            omega
          · simp [Array.getD, show ¬ e.on - (n + 1) < L.size by omega] at h6
        rw [show e.on = n + 1 + (e.on - (n + 1)) by omega, h2 _ _ h7]
        exact h6
  intro f
  induction f with
  | zero =>
    intro L L' a w h1 h2 h3 h4 h
    refine ⟨?_, h.2⟩
    refine List.eq_nil_iff_forall_not_mem.2 fun i hi => ?_
    obtain ⟨i', _, hi'⟩ := (rdy L L' h1 h2 h3 h4 i).1 hi
    rw [h.1] at hi'
    cases hi'
  | succ f ih =>
    intro L L' a w h1 h2 h3 h4 h
    refine ⟨fun he => h.1 (List.eq_nil_iff_forall_not_mem.2 fun i' hi' => ?_), fun i hi => ?_⟩
    · have := (rdy L L' h1 h2 h3 h4 (n + 1 + i')).2 ⟨i', rfl, hi'⟩
      rw [he] at this
      cases this
    · obtain ⟨i', rfl, hi'⟩ := (rdy L L' h1 h2 h3 h4 i).1 hi
      have hw := h.2 i' hi'
      obtain ⟨_, o', ho', _⟩ := mem_ready.1 hi'
      have ho2 : (restO l n)[i']? = some o' := by simpa using ho'
      rw [restO_at, Option.map_eq_some_iff] at ho2
      obtain ⟨o, ho, rfl⟩ := ho2
      have hil := (List.getElem?_eq_some_iff.1 ho).1
      have hK : ∀ a w, wpAnyIn F j P .any (restO l n).toArray Q f (L.setIfInBounds i' true) a w → wpAnyIn F j P .any l.toArray Q f (L'.setIfInBounds (n + 1 + i') true) a w := fun a w hh => by
        refine ih _ _ a w (fun k hk => ?_) (fun k b hk => ?_) (by simp [h3]) (by simp [h4]) hh
        · rw [getD_set_ne _ (by omega)]; exact h1 k hk
        · by_cases hki : k = i'
          · subst hki
            have : (restO l n).length = l.length - (n + 1) := by simp [restO]
            have g1 : n + 1 + k < L'.size := by omega
            have g2 : k < L.size := by omega
            simp [g1, g2]
          · rw [getD_set_ne _ (by omega), getD_set_ne _ (Ne.symm hki)]; exact h2 k b hk
      have hgo : o.guard = none := by
        have := List.all_eq_true.1 hg o (List.mem_of_getElem? (i := i') (by rw [List.getElem?_drop]; exact ho))
        simpa using this
      unfold wpOpIn at hw ⊢
      have e1 : (restO l n).toArray[i']? = some (shiftO (n + 1) o) := ho'
      have e2 : l.toArray[n + 1 + i']? = some o := by simpa using ho
      rw [e1] at hw
      rw [e2]
      simp only at hw ⊢
      have w1 : ∀ f, Region.wanted (shiftO (n + 1) o) f = true := fun f => by unfold Region.wanted shiftO; simp only [hgo]
      have w2 : ∀ f, Region.wanted o f = true := fun f => by unfold Region.wanted; simp only [hgo]
      rw [if_pos (w1 _)] at hw
      rw [if_pos (w2 _)]
      exact Oper.wpIn_mono hK hw
end
theorem AWi.drawsM (hm : P.follows .mixedOrders = true) {id : Nat} {l : List Oper} (n : Nat) (hst : stOk (l.take n).toArray = true) (hst2 : stOk (restO l n).toArray = true) (hB : midB l n = true) {n0 : Nat} {s : St} {Q : Post}
    (h : ExecV P r ns (l.take n) n0 (l.take n) n0 s [] (fun n' s' => ∃ o, l[n]? = some o ∧ o.guard = none ∧ (∀ t, o.dst = some t → t < ns) ∧ ∃ G, StepI P r ns n' s' o G ∧ ∀ n2 s2, G n2 s2 → ExecV P r ns (restO l n) n2 (restO l n) n2 s2 [] (fun n3 s3 => Q .normal n3 s3))) :
    AWi P r ns (.region id l.toArray true) n0 s Q := fun W0 R0 B E a w hi hs => by
  obtain ⟨es, nF, sF, k1, ⟨o, ho, hog, hod, G, hG, hrest⟩, k3⟩ := execV_chain (l.take n) n0 s [] (fun _ h => by cases h) (Nat.le_refl _) h
  have hD := draw3_V k1 hst fun i k ei ek hik hi hk => k3 i k ei ek hik (Nat.zero_le _) hi hk
  have hBk : backB (l.take n).toArray = true := by unfold stOk at hst; rw [Bool.and_eq_true] at hst; exact hst.1
  have hBk2 : backB (restO l n).toArray = true := by unfold stOk at hst2; rw [Bool.and_eq_true] at hst2; exact hst2.1
  have e0 := chainV_zero k1
  have eF := chainV_end k1
  have h1 := draw_any3 hBk hD hi (E := E) (a := a) (by rw [e0.1, e0.2]; exact hs.drew) (Q := fun e a' w' => e = .normal ∧ ∃ E', Sim W0 R0 ns (· < nF) sF E' a' w') (fun E' a' w' h => ⟨rfl, E', by rw [eF.1, eF.2] at h; exact h⟩)
  refine wpIn_region_any hm ?_
  have hB' := hB
  simp only [midB, headB, Bool.and_eq_true, decide_eq_true_eq] at hB'
  obtain ⟨⟨_, hn⟩, _, _, hgr, hready⟩ := hB'
  have hsz : (l.take n).toArray.size = n := by simp; omega
  have hrl : (restO l n).length = l.length - (n + 1) := by simp [restO]
  rw [hsz] at h1
  have hmid : ∀ (a' : Act) (w' : World) (E' : Env), Sim W0 R0 ns (· < nF) sF E' a' w' → wpAnyIn (fen (rOf W0 r)) 0 P .any l.toArray (fun e a' w' => ∃ n' s' E' W', Ext W0 W' ∧ InAct r W' R0 B ∧ Sim W' R0 ns (· < n') s' E' a' w' ∧ Q e n' s') (l.length - n) (listedTo l.length n) a' w' := fun a' w' E' hsm => by
    rw [show l.length - n = (l.length - (n + 1)) + 1 by omega]
    refine ⟨fun h => (by rw [hready] at h; cases h), fun i hi2 => ?_⟩
    rw [hready] at hi2
    obtain rfl : i = n := by simpa using hi2
    have e2 : l.toArray[i]? = some o := by simpa using ho
    unfold wpOpIn
    rw [e2]
    simp only
    rw [if_pos (by unfold Region.wanted; simp only [hog])]
    refine hG W0 R0 B E' a' w' hi hsm hod _ _ fun n2 s2 E2 a2 w2 hg2 hs2 => ?_
    obtain ⟨es2, nF2, sF2, p1, p2, p3⟩ := execV_chain (restO l i) n2 s2 [] (fun _ h => by cases h) (Nat.le_refl _) (hrest n2 s2 hg2)
    have hD2 := draw3_V p1 hst2 fun i k ei ek hik hi hk => p3 i k ei ek hik (Nat.zero_le _) hi hk
    have q0 := chainV_zero p1
    have qF := chainV_end p1
    have h3 := draw_any3 hBk2 hD2 hi (E := E2) (a := a2) (w := w2) (by rw [q0.1, q0.2]; exact hs2) (Q := fun e a' w' => ∃ n' s' E' W', Ext W0 W' ∧ InAct r W' R0 B ∧ Sim W' R0 ns (· < n') s' E' a' w' ∧ Q e n' s') (fun E3 a3 w3 h => ⟨nF2, sF2, E3, W0, Ext.refl _, hi, by rw [qF.1, qF.2] at h; exact h, p2⟩)
    have hsz2 : (restO l i).toArray.size = l.length - (i + 1) := by simpa using hrl
    rw [hsz2] at h3
    refine wpAnyIn_rest hgr _ (Array.replicate (l.length - (i + 1)) false) _ _ _ (fun k hk => ?_) (fun k b hk => ?_) (by simp [listedTo]) (by simp [hrl]) h3
    · by_cases hki : k = i
      · subst hki
        have : k < (listedTo l.length k).size := by simp [listedTo]; omega
        simp [this]
      · rw [getD_set_ne _ (Ne.symm hki)]
        simp [listedTo, show k < i by omega, show k < l.length by omega]
    · rw [getD_set_ne _ (by omega)]
      simp [listedTo, show ¬ i + 1 + k < i by omega, show i + 1 + k < l.length by omega, show k < l.length - (i + 1) by omega]
  have h2 := wpAnyIn_mid (j := 0) (Q := fun e a' w' => ∃ n' s' E' W', Ext W0 W' ∧ InAct r W' R0 B ∧ Sim W' R0 ns (· < n') s' E' a' w' ∧ Q e n' s') hB (fun e a w h => h.1) (fun a' w' ⟨_, E', h⟩ => hmid a' w' E' h) n (Array.replicate n false) (Array.replicate l.length false) a _ (by simp)
    ⟨by simp, fun j oj _ hl => (by rw [getD_replicate_false] at hl; cases hl), fun t _ ht => getD_in (by simpa using ht) (getD_replicate_false _ _)⟩ (fun i hi => by simp [hi, show i < l.length by omega]) (fun i hi => by simp [hi, show i < l.length by omega]) h1
  rw [show n + (l.length - n) = l.length by omega] at h2
  simpa using h2
end Go.Proofs.Ytcmkkgdjhjpldaa.Eng

namespace Go.Proofs.Ytcmkkgdjhjpldaa.Eng
open Go.RowKit
theorem CourseAt.wide {l : List HS} {rs : List (Nat → Int)} {m : Mem} {c lo hi lo' hi' : Nat} (h : CourseAt l rs m c lo hi) (h1 : lo' ≤ lo) (h2 : hi ≤ hi') : CourseAt l rs m c lo' hi' := by
  obtain ⟨x, a, b, d, e⟩ := h
  refine ⟨x, by omega, by omega, d, ?_⟩
  rcases e with e | ⟨id, p, q, r⟩
  · exact .inl e
  · exact .inr ⟨id, p, by omega, r⟩
theorem mixedH : Try.prog.follows .mixedOrders = true := by kernel_rfl
abbrev goalM (m : Mem) (g : HE) (n : Nat) : Mem := setMem (only m []) n (some (.box 24 [.d (iD g.depth), .d (iD g.burr)] false))
set_option maxRecDepth 100000 in
set_option maxHeartbeats 4000000 in
theorem reaches_n (g : HE) (n : Nat) (m : Mem) : NCall Try.prog 63 [.agg [.d (iD g.depth), .d (iD g.burr)]] (only m []) n (n + 1 + 1 + 1 + 1) (reachF n) (goalM m g n) := by
  have no : ∀ i, only m [] i = none := fun i => by simp
  have h : CWp Try.prog 63 [.agg [.d (iD g.depth), .d (iD g.burr)]] n (only m []) fun y n' m' => reachF n = y ∧ n + 1 + 1 + 1 + 1 = n' ∧ goalM m g n = m' := by
    refine cwpK tabOk Try.func63 rfl rfl (show 1 ≤ _ by decide) rfl fun _ => ?_; simp only [Try.ntmps63]
    repeat (first | (with_reducible first | refine AWi.seqK fun _ => ?_ | refine AWi.blockK fun _ => ?_ | refine KI.go ?_) | ((first | refine AWi.region tabOk ?_ | refine AWi.condK fun _ _ => ?_ | refine AWi.draws tabOk rfl (by kernel_rfl) (by kernel_rfl) ?_); simp [-getElem?_pos, z0, z1, z2, z0]) | ((first | refine AWi.ret ?_ | refine AWi.skip ?_ | refine AWi.exit ?_); try simp only [thenP]) | (with_reducible refine BB.go ?_; simp only [blockP, thenP, reduceIte]) | (with_reducible refine And.intro (okLog_c (by simp [footOf, guardSlot, slotsOf, idsRead, looks, idsOf, idsOf1, idsWritten, colF]; kernel_rfl)) ?_))
    exact RI.ret rfl ⟨rfl, rfl, rfl⟩
  refine NCall.of h (fun i b hb => by rw [no] at hb; cases hb) (fun i b hb => by rw [no] at hb; cases hb) (fun x hx => ?_) (fun i b hb => ?_) ?_
  · simp at hx
    subst hx
    exact .agg _ fun c hc => by simp at hc; rcases hc with rfl | rfl <;> exact .d _
  · by_cases e : i = n
    · rw [show goalM m g n i = _ from if_pos e] at hb
      cases hb
      exact ⟨.inr ⟨by omega, by omega⟩, .box _ _ _ fun c hc => by simp at hc; rcases hc with rfl | rfl <;> exact .d _⟩
    · rw [show goalM m g n i = only m [] i from if_neg e, no] at hb
      cases hb
  · refine .fn _ _ _ (fun c hc => by cases hc) fun c hc => ?_
    simp at hc
    subst hc
    exact .ptr _ _ _ (.inr ⟨by omega, by omega⟩)
def reachE (l : List HS) (g e : HE) : Int := if chkErr l [e, g] = 0 then (match needN l g e with | some _ => 0 | none => 13) else chkErr l [e, g]
set_option maxRecDepth 100000 in
set_option maxHeartbeats 8000000 in
theorem checkReach_w (l : List HS) (e g : HE) (n : Nat) (m : Mem) :
    CWp Try.prog 55 [.d (boxD l), .agg [.d (iD e.depth), .d (iD e.burr)], .agg [.d (iD g.depth), .d (iD g.burr)]] n m fun y n' m' => n ≤ n' ∧ (∀ j, j < n → m' j = m j) ∧ if chkErr l [e, g] = 0 then (match needN l g e with
      | some k => ∃ c, y = .tup [.ptr c 0 0, .d (iD 0)] ∧ CourseAt l ((rowsG l g).take k) m' c n n'
      | none => y = .tup [.d (.val (.pointer none)), .d (iD 13)]) else y = .tup [.d (.val (.pointer none)), .d (iD (chkErr l [e, g]))] := by
  have cb : ACall Try.prog 49 [boxD l, .list [[iD e.depth, iD e.burr], [iD g.depth, iD g.burr]]] (.tup [.agg [boxD (chkB l [e, g])], iD (chkErr l [e, g])]) := check_c l [e, g] (by simp)
  by_cases h0 : chkErr l [e, g] = 0
  · obtain ⟨hb, hes⟩ := chkOk h0
    have ge := goodE (e := e) (by simp at hes; exact hes.1)
    have gg := goodE (e := g) (by simp at hes; exact hes.2)
    have hcb : chkB l [e, g] = l := if_pos h0
    rw [h0, hcb] at cb
    have o1 : ¬ n = n + 1 := by omega
    have o2 : ¬ n + 1 = n := by omega
    have o3 : ¬ n = n + 1 + 1 + 1 + 1 + 1 + 1 + 1 := by omega
    refine cwpK tabOk Try.func55 rfl rfl (show 3 ≤ _ by decide) rfl fun _ => ?_; simp only [Try.ntmps55]
    repeat (first | (with_reducible first | refine AWi.seqK fun _ => ?_ | refine AWi.blockK fun _ => ?_ | refine KI.go ?_) | ((first | refine AWi.region tabOk ?_ | refine AWi.condK fun _ _ => ?_ | refine AWi.draws tabOk rfl (by kernel_rfl) (by kernel_rfl) ?_); simp [-getElem?_pos, z0, z1, z2, z0]) | ((first | refine AWi.ret ?_ | refine AWi.skip ?_ | refine AWi.exit ?_); try simp only [thenP]) | (with_reducible refine BB.go ?_; simp only [blockP, thenP, reduceIte]))
    refine ExecI.call [n + 1 + 1 + 1 + 1 + 1 + 1 + 1] cb ?_ rfl ?_ ?_; (focus simp [-getElem?_pos, ]); (focus simp [-getElem?_pos, z0, z1, z2, ]); simp [-getElem?_pos, z0, z1, z2, ]
    repeat (first | (with_reducible first | refine AWi.seqK fun _ => ?_ | refine AWi.blockK fun _ => ?_ | refine KI.go ?_) | ((first | refine AWi.region tabOk ?_ | refine AWi.condK fun _ _ => ?_); simp [-getElem?_pos, z0, z1, z2, z0]) | ((first | refine AWi.ret ?_ | refine AWi.skip ?_ | refine AWi.exit ?_); try simp only [thenP]) | (with_reducible refine BB.go ?_; simp only [blockP, thenP, reduceIte]))
    refine AWi.drawsM mixedH 4 (by kernel_rfl) (by kernel_rfl) (by kernel_rfl) ?_
    simp only [List.take_succ_cons, List.take_zero]
    repeat (with_reducible refine ExecV.auto tabOk ?_; simp [-getElem?_pos, z0, z1, z2, kindV, isPure, o1, o2, o3]; try (refine And.intro (OkV_old (by simp; try omega) (by omega) (by simp [AllAcc])) ?_))
    refine ExecV.callP [] (reaches_n g _ _) (by omega) (fun i hi => by cases hi) rfl (by simp [calleeS, evList]) (OkV_old (by simp) (by omega) (by simp [AllAcc])) ?_
    refine ⟨_, stepI_call (by simp [calleeS, evList]) (course_w l hb.all hb.n2 g gg e ge (n + 1 + 1 + 1 + 1 + 1 + 1 + 1 + 1 + 1 + 1 + 1 + 1 + 1 + 1 + 1 + 1 + 1) _ _ (by omega) ⟨false, by simp⟩), ?_⟩
    rintro n2 s2 ⟨y, m', ⟨hn2, hm2, hy⟩, rfl⟩
    have hlow : ∀ j, j < n → m' j = m j := fun j hj => (hm2 j (by omega)).trans (by simp [show ¬ n + 1 + 1 + 1 + 1 + 1 + 1 + 1 + 1 + 1 + 1 + 1 + 1 + 1 + 1 + 1 + 1 + 1 ≤ j by omega, show ¬ j = n by omega, show ¬ j = n + 1 by omega, show ¬ j = n + 1 + 1 + 1 + 1 + 1 + 1 + 1 + 1 + 1 + 1 + 1 + 1 by omega, show ¬ j = n + 1 + 1 + 1 + 1 + 1 + 1 + 1 by omega])
    simp only [restO, List.drop_succ_cons, List.drop_zero, List.map_cons, List.map_nil, shiftO]
    obtain ⟨k, hneed⟩ | hneed : (∃ k, needN l g e = some k) ∨ needN l g e = none := by
      cases needN l g e
      · exact .inr rfl
      · exact .inl ⟨_, rfl⟩
    · rw [hneed] at hy
      obtain ⟨c, rfl, hc⟩ := hy
      repeat (with_reducible refine ExecV.auto tabOk ?_; simp [-getElem?_pos, z0, z1, z2, kindV, isPure, z0]; try (refine And.intro (OkV_old (by simp; try omega) (by omega) (by simp [AllAcc])) ?_))
      unfold ExecV
      simp only [thenP]
      repeat (first | (with_reducible first | refine AWi.seqK fun _ => ?_ | refine AWi.blockK fun _ => ?_ | refine KI.go ?_) | ((first | refine AWi.region tabOk ?_ | refine AWi.condK fun _ _ => ?_ | refine AWi.draws tabOk rfl (by kernel_rfl) (by kernel_rfl) ?_); simp [-getElem?_pos, z0, z1, z2, z0]) | ((first | refine AWi.ret ?_ | refine AWi.skip ?_ | refine AWi.exit ?_); try simp only [thenP]) | (with_reducible refine BB.go ?_; simp only [blockP, thenP, reduceIte]))
      exact RI.ret rfl ⟨by omega, hlow, by rw [if_pos h0, hneed]; exact ⟨c, rfl, hc.wide (by omega) (by omega)⟩⟩
    · rw [hneed] at hy
      subst hy
      repeat (with_reducible refine ExecV.auto tabOk ?_; simp [-getElem?_pos, z0, z1, z2, kindV, isPure, z0]; try (refine And.intro (OkV_old (by simp; try omega) (by omega) (by simp [AllAcc])) ?_))
      unfold ExecV
      simp only [thenP]
      repeat (first | (with_reducible first | refine AWi.seqK fun _ => ?_ | refine AWi.blockK fun _ => ?_ | refine KI.go ?_) | ((first | refine AWi.region tabOk ?_ | refine AWi.condK fun _ _ => ?_ | refine AWi.draws tabOk rfl (by kernel_rfl) (by kernel_rfl) ?_); simp [-getElem?_pos, z0, z1, z2, z0]) | ((first | refine AWi.ret ?_ | refine AWi.skip ?_ | refine AWi.exit ?_); try simp only [thenP]) | (with_reducible refine BB.go ?_; simp only [blockP, thenP, reduceIte]))
      exact RI.ret rfl ⟨by omega, hlow, by rw [if_pos h0, hneed]; rfl⟩
  · generalize chkErr l [e, g] = er at *
    generalize chkB l [e, g] = bb at *
    refine cwpK tabOk Try.func55 rfl rfl (show 3 ≤ _ by decide) rfl fun _ => ?_; simp only [Try.ntmps55]
    repeat (first | (with_reducible first | refine AWi.seqK fun _ => ?_ | refine AWi.blockK fun _ => ?_ | refine KI.go ?_) | ((first | refine AWi.region tabOk ?_ | refine AWi.condK fun _ _ => ?_ | refine AWi.draws tabOk rfl (by kernel_rfl) (by kernel_rfl) ?_); simp [-getElem?_pos, z0, z1, z2, z0]) | ((first | refine AWi.ret ?_ | refine AWi.skip ?_ | refine AWi.exit ?_); try simp only [thenP]) | (with_reducible refine BB.go ?_; simp only [blockP, thenP, reduceIte]))
    refine ExecI.call [n + 1 + 1 + 1 + 1 + 1 + 1 + 1] cb ?_ rfl ?_ ?_; (focus simp [-getElem?_pos, ]); (focus simp [-getElem?_pos, z0, z1, z2, ]); simp [-getElem?_pos, z0, z1, z2, ]
    repeat (first | (with_reducible first | refine AWi.seqK fun _ => ?_ | refine AWi.blockK fun _ => ?_ | refine KI.go ?_) | ((first | refine AWi.region tabOk ?_ | refine AWi.condK fun _ _ => ?_ | refine AWi.draws tabOk rfl (by kernel_rfl) (by kernel_rfl) ?_); simp [-getElem?_pos, z0, z1, z2, h0]) | ((first | refine AWi.ret ?_ | refine AWi.skip ?_ | refine AWi.exit ?_); try simp only [thenP]) | (with_reducible refine BB.go ?_; simp only [blockP, thenP, reduceIte]))
    exact RI.ret rfl ⟨by omega, fun j hj => by simp [show ¬ j = n by omega, show ¬ j = n + 1 by omega, show ¬ j = n + 1 + 1 + 1 + 1 + 1 + 1 + 1 + 1 + 1 + 1 + 1 + 1 by omega, show ¬ j = n + 1 + 1 + 1 + 1 + 1 + 1 + 1 by omega], by rw [if_neg h0]; rfl⟩
end Go.Proofs.Ytcmkkgdjhjpldaa.Eng

namespace Go.Proofs.Ytcmkkgdjhjpldaa.Eng
def toD5 : SV → Option Dat
  | .nilS => some (.list [])
  | x => toD2 x
def toD4 : SV → Option Dat
  | .tup l => match mapO toD5 l with
    | some m => some (.tup m)
    | none => none
  | x => toD5 x
theorem toD5_rep {E : Env} {w : World} {x : SV} {d : Dat} {v : Value} (h : toD5 x = some d) (hr : Rep E w x v) : RepD E.ro w d v := by
  unfold toD5 at h
  split at h
  · cases h
    cases hr
    exact .list [] none 0 (fun _ _ => .int .i64 0) (Nat.le_refl _) (Nat.zero_le _) (fun r hr => by cases hr) (fun h => absurd h (by decide)) fun i j r c hi => by simp at hi
  · cases (toD2_rep h).1 hr with | d _ _ h => exact h
theorem toD4_rep {E : Env} {w : World} {x : SV} {d : Dat} {v : Value} (h : toD4 x = some d) (hr : Rep E w x v) : RepD E.ro w d v := by
  unfold toD4 at h
  split at h
  · rename_i l
    split at h
    · rename_i m hm
      cases h
      obtain ⟨hlen, hget⟩ := mapO_get hm
      have hget2 : ∀ (i : Nat) (d : Dat), m[i]? = some d → ∃ x, l[i]? = some x ∧ toD5 x = some d := fun i d hd => by
        have hi : i < l.length := by rw [← hlen]; exact (List.getElem?_eq_some_iff.1 hd).1
        obtain ⟨y, h1, h2⟩ := hget i _ (List.getElem?_eq_getElem hi)
        rw [hd] at h1
        cases h1
        exact ⟨_, List.getElem?_eq_getElem hi, h2⟩
      cases hr with
      | tup _ vs h1 h3 =>
      refine .tup m vs (by rw [h1, hlen]) fun i c v hc hv => ?_
      obtain ⟨x, q1, q2⟩ := hget2 i c hc
      exact toD5_rep q2 (h3 i x v q1 hv)
    · cases h
  · exact toD5_rep h hr
variable {P : Program}
theorem RCall.of4 {f : FuncId} {svs : List SV} {d : Dat} {m : Mem} {n0 : Nat} (h : ∀ n, n0 ≤ n → CWp P f svs n m fun y _ m' => toD4 y = some d ∧ ∀ j, j < n → m' j = m j) : RCall P f svs d m :=
  ⟨(h n0 (Nat.le_refl _)).callable, fun W0 R0 D N E w vs hD M h1 h2 => by
    refine ((h (max N n0) (Nat.le_max_right _ _)).calls W0 R0 E w vs (ms_dom M fun i hi => Nat.lt_of_lt_of_le (hD i hi) (Nat.le_max_left _ _)) h1 h2).mono ?_
    rintro e w' ⟨v, E', n', m', y, rfl, M', hE, hw, hv, hy, hm⟩
    have hlt : ∀ i b, m i = some b → m' i = some b := fun i b hi => by
      rw [hm i (Nat.lt_of_lt_of_le (hD i (M.dom i (M.live i b hi))) (Nat.le_max_left _ _))]; exact hi
    let E2 : Env := { E' with dom := E.dom }
    refine ⟨v, E2, rfl, ⟨M'.below, M'.ro0, M'.ro1, M'.rlt, M.dom, M.live, fun i b hi => ?_, fun i b hi => M'.base i b (hlt i b hi), fun i b hi => M'.frz i b (hlt i b hi), fun i j b c hi hj hn => M'.inj i j b c (hlt i b hi) (hlt j c hj) hn⟩, ⟨hE.ro, fun _ h => h, hE.home⟩, hw, ?_⟩
    · exact Holds.restrict (E := E) (E' := E') (E'' := E2) (w := w) (w' := w') (h0 := E.home i) (h := E'.home i) (fun _ h => h) (fun _ h => h) (fun _ _ => rfl) (M'.mem i b (hlt i b hi)) (M.mem i b hi)
    · exact .d _ _ (toD4_rep (E := E') hy hv)⟩
theorem RCall.ofA4 {f : FuncId} {ds : List Dat} {d : Dat} (h : ACall P f ds d) {svs : List SV} (hs : mapO toD4 svs = some ds) (m : Nat → Option Blk) : RCall P f svs d m :=
  ⟨h.callable, fun W0 R0 D N E w vs hD M h1 h2 => by
    obtain ⟨hlen, hget⟩ := mapO_get hs
    refine (h.calls E.ro w vs M.rlt (by rw [h1, hlen]) fun i d v hd hv => ?_).mono ?_
    · have hi : i < svs.length := by rw [← hlen]; exact (List.getElem?_eq_some_iff.1 hd).1
      obtain ⟨y, q1, q2⟩ := hget i _ (List.getElem?_eq_getElem hi)
      rw [hd] at q1
      cases q1
      exact toD4_rep q2 (h2 i _ v (List.getElem?_eq_getElem hi) hv)
    · rintro e w' ⟨v, rfl, hb, hr⟩
      let E2 : Env := { E with ro := fun b => E.ro b ∨ (w.heap.size ≤ b ∧ b < w'.heap.size) }
      have hE : E.le E2 := ⟨fun _ h => .inl h, fun _ h => h, fun _ _ => rfl⟩
      have hw : ∀ b, E.ro b → w'.heap[b]? = w.heap[b]? := fun b hb' => hb.block b (M.rlt b hb')
      refine ⟨v, E2, rfl, ⟨M.below.trans (kept_of hb fun b hu => Nat.lt_of_lt_of_le (W0.lt b hu) M.below.size), fun b hb => .inl (M.ro0 b hb), fun b hb' => ?_, fun b hb' => ?_, M.dom, M.live, fun i b hi => (M.mem i b hi).keep hE hw (hb.block _ (M.mem i b hi).lt), M.base, fun i b hi => ?_, M.inj⟩, hE, hw, .d _ _ hr⟩
      · rcases hb' with h | h
        · exact M.ro1 b h
        · exact .inr fun hu => by have := W0.lt b hu; have := M.below.size; omega
      · rcases hb' with h | h
        · exact Nat.lt_of_lt_of_le (M.rlt b h) (kept_of (U := fun _ => False) hb fun _ h => h.elim).size
        · exact h.2
      · refine (M.frz i b hi).trans ⟨.inl, fun h => h.elim id fun h => ?_⟩
        have h5 : (E.home i).blk < w.heap.size := (M.mem i b hi).lt
        have h6 : w.heap.size ≤ (E.home i).blk := h.1
        omega⟩
theorem RCall.ofOwn {f : FuncId} {svs : List SV} {rows : List (List Dat)} {m : Mem} {n0 : Nat} (h : ∀ n, n0 ≤ n → CWp P f svs n m fun y _ m' => (∃ id z ty, n ≤ id ∧ y = .own id rows.length z ∧ m' id = some (.row ty z rows false)) ∧ ∀ j, j < n → m' j = m j) : RCall P f svs (.list rows) m :=
  ⟨(h n0 (Nat.le_refl _)).callable, fun W0 R0 D N E w vs hD M h1 h2 => by
    refine ((h (max N n0) (Nat.le_max_right _ _)).calls W0 R0 E w vs (ms_dom M fun i hi => Nat.lt_of_lt_of_le (hD i hi) (Nat.le_max_left _ _)) h1 h2).mono ?_
    rintro e w' ⟨v, E', n', m', y, rfl, M', hE, hw, hv, ⟨id, z, ty, hid, rfl, hrow⟩, hm⟩
    have hin : ∀ i b, m i = some b → i < max N n0 := fun i b hi => Nat.lt_of_lt_of_le (hD i (M.dom i (M.live i b hi))) (Nat.le_max_left _ _)
    have hlt : ∀ i b, m i = some b → m' i = some b := fun i b hi => by
      rw [hm i (hin i b hi)]; exact hi
    let E2 : Env := { E' with dom := E.dom, ro := fun b => E'.ro b ∨ b = (E'.home id).blk }
    refine ⟨v, E2, rfl, ⟨M'.below, fun b hb => .inl (M'.ro0 b hb), fun b hb => ?_, fun b hb => ?_, M.dom, M.live, fun i b hi => ?_, fun i b hi => M'.base i b (hlt i b hi), fun i b hi => ?_, fun i j b c hi hj hn => M'.inj i j b c (hlt i b hi) (hlt j c hj) hn⟩, ⟨fun b hb => .inl (hE.ro b hb), fun _ h => h, hE.home⟩, hw, ?_⟩
    · rcases hb with hb | rfl
      · exact M'.ro1 b hb
      · exact .inr fun hu => M'.base id _ hrow hu
    · rcases hb with hb | rfl
      · exact M'.rlt b hb
      · exact (M'.mem id _ hrow).lt
    · exact Holds.restrict (E := E) (E' := E') (E'' := E2) (w := w) (w' := w') (h0 := E.home i) (h := E'.home i) (fun _ h => .inl h) (fun _ h => h) (fun _ _ => rfl) (M'.mem i b (hlt i b hi)) (M.mem i b hi)
    · refine (M'.frz i b (hlt i b hi)).trans ⟨.inl, fun h => h.elim (fun h => h) fun e => ?_⟩
      exact absurd e (M'.inj i id b _ (hlt i b hi) hrow (by have := hin i b hi; omega))
    · cases hv with
      | own _ _ _ hd hz =>
      cases M'.mem id _ hrow with
      | row _ _ _ _ cur g1 g2 g3 g4 g5 g6 g7 g8 =>
      refine .d _ _ (.list rows _ _ (fun i j => cur.getD (i * z + j) (.int .i64 0)) g4 g5 g7 (fun _ => ⟨_, 0, z, rfl, .inr rfl, g6, fun i j hi hj => ?_⟩) fun i j r c hi hj => ?_)
      · have hsz : i * z + j < cur.size := by
          rw [g3]
          exact Nat.lt_of_lt_of_le (Nat.lt_of_lt_of_le (Nat.add_lt_add_left hj _) (by rw [← Nat.succ_mul]; exact Nat.mul_le_mul_right _ hi)) (Nat.mul_le_mul_right _ g4)
        rw [Nat.zero_add, World.cell?]
        simp [g1, Array.getD_eq_getD_getElem?, hsz]
      · have hir := (List.getElem?_eq_some_iff.1 hi).1
        have hjz : j < z := by rw [← g6 r (List.mem_of_getElem? hi)]; exact (List.getElem?_eq_some_iff.1 hj).1
        have hsz : i * z + j < cur.size := by
          rw [g3]
          exact Nat.lt_of_lt_of_le (Nat.lt_of_lt_of_le (Nat.add_lt_add_left hjz _) (by rw [← Nat.succ_mul]; exact Nat.mul_le_mul_right _ hir)) (Nat.mul_le_mul_right _ g4)
        have := g8 i j r c _ hi hj (Array.getElem?_eq_getElem hsz)
        rw [show cur.getD (i * z + j) (.int .i64 0) = cur[i * z + j] by simp [Array.getD_eq_getD_getElem?, hsz]]
        exact this.keep (ro' := E2.ro) (fun b hb => .inl hb) fun _ _ => rfl⟩
end Go.Proofs.Ytcmkkgdjhjpldaa.Eng

namespace Go.Proofs.Ytcmkkgdjhjpldaa.Eng
open Go.RowKit
theorem setMem_lt {m : Mem} {a j : Nat} {b : Option Blk} (h : j < a) : setMem m a b j = m j := if_neg (by omega)
theorem putN_lt {m q : Mem} {a b j : Nat} (h : j < a) : putN m a b q j = m j := if_neg (by omega)
theorem tab_put (f f' : Nat → Int) {k : Nat} (hk : k < 7) {v : Int} (h : ∀ i, i < 7 → f' i = if i = k then v else f i) : (tab f).set k v = tab f' := by
  rw [tab_set f hk v]
  exact (tab_ext h).symm
theorem iRows_tab (f : Nat → Int) {k : Nat} (hk : k < 7) : (iRows (tab f))[k]? = some [iD (f k)] := by simp [iRows, tab_get f hk]
set_option maxRecDepth 100000 in
set_option maxHeartbeats 4000000 in
theorem list_c (f : Nat → Int) (hf : rowOk f) : ACall Try.prog 59 [rowD f] (intL (tab fun i => f i - 1)) := by
  refine acallK tabOk Try.func59 rfl rfl (show 1 ≤ _ by decide) rfl fun _ => ?_; simp only [Try.ntmps59]
  repeat (first | (with_reducible first | refine zq1 fun _ => ?_ | refine zq2 fun _ => ?_ | refine zq3 ?_) | ((first | refine zq4 ?_ | refine zq5 fun _ _ => ?_ | refine zq6 ?_); simp [-getElem?_pos, z0, z1, z2, ]) | ((first | refine AWp.ret ?_ | refine AWp.skip ?_ | refine AWp.exit ?_); try simp only [thenP]) | (with_reducible refine zq7 ?_; simp only [blockP, thenP, reduceIte]) | with_reducible refine zq8 ?_)
  refine AWp.loopK (ι := { k : Nat // k ≤ 7 }) (n := 2) (fun k => [(1, .ptr 0 0 0), (3, .own 1 7 1), (7, .agg (rowS f)), (8, .d (iD k.1))]) (fun k => [(0, .box 83 (rowS f) false), (1, .row 3 1 (iRows (tab fun i => if i < k.1 then f i - 1 else 0)) false)]) (fun k => 7 - k.1) ⟨0, Nat.zero_le _⟩ [0, 2] ?_ ?_
  · refine ⟨by rfl, by simp [tab7, iRows], by simp [or_imp, forall_and, tab7, iRows] <;> (try (intro _hne; simp [_hne])), by decide⟩
  rintro ⟨k, hk⟩ kk
  have w1 : IntKind.i64.wrap ((k : Int) + 1) = (k : Int) + 1 := wrap64_in (by omega)
  by_cases hlt : k < 7
  · have hk7 : (k : Int) < 7 := by omega
    have hk1 : k + 1 ≤ 7 := hlt
    have c1 := fun (g : Int → SV) f => tab1 (g := g) (f := f) hlt
    have c2 := fun f => tab_get f hlt
    have c3 := iRows_tab (fun i => if i < k then f i - 1 else 0) hlt
    have hb := hf k hlt
    have w2 : IntKind.i64.wrap (f k - 1) = f k - 1 := wrap64_in (by omega)
    have hset := tab_put (fun i => if i < k then f i - 1 else 0) (fun i => if i < k + 1 then f i - 1 else 0) hlt (v := f k - 1) fun i hi => by
      by_cases h1 : i = k
      · subst h1; simp
      · by_cases h2 : i < k
        · rw [if_pos (by omega), if_neg h1, if_pos h2]
        · rw [if_neg (by omega), if_neg h1, if_neg h2]
    repeat (first | (with_reducible first | refine zq1 fun _ => ?_ | refine zq2 fun _ => ?_ | refine zq3 ?_) | ((first | refine zq4 ?_ | refine zq5 fun _ _ => ?_ | refine zq6 ?_); simp [-getElem?_pos, z0, z1, z2, hlt, hk7, hk1, c1, c2, c3, w1, w2, hset]) | ((first | refine AWp.ret ?_ | refine AWp.skip ?_ | refine AWp.exit ?_); try simp only [thenP]) | (with_reducible refine zq7 ?_; simp only [blockP, thenP, reduceIte]) | with_reducible refine zq8 ?_)
    refine LL.go ⟨k + 1, hlt⟩ [0, 1] ⟨by rfl, by simp [hset], by simp [or_imp, forall_and, hset] <;> (try (intro _hne; simp [_hne])), by decide⟩ ?_
    simp; omega
  · obtain rfl : k = 7 := by omega
    have hend : (tab fun i => if i < 7 then f i - 1 else 0) = tab fun i => f i - 1 := tab_ext fun i hi => if_pos hi
    rw [hend]
    repeat (first | (with_reducible first | refine zq1 fun _ => ?_ | refine zq2 fun _ => ?_ | refine zq3 ?_) | ((first | refine zq4 ?_ | refine zq5 fun _ _ => ?_ | refine zq6 ?_); simp [-getElem?_pos, z0, z1, z2, ]) | ((first | refine AWp.ret ?_ | refine AWp.skip ?_ | refine AWp.exit ?_); try simp only [thenP]) | (with_reducible refine zq7 ?_; simp only [blockP, thenP, reduceIte]) | with_reducible refine zq8 ?_)
    (first | refine RR.ret ?_ | refine RR.normal ?_); simp []
theorem rowsG_ok {l : List HS} (hl : l.all okS = true) {g : HE} (gg : GoodE g) : ∀ r ∈ rowsG l g, rowOk r := by
  have key : ∀ (k : Nat) (r : Nat → Int), rowOk r → ∀ x ∈ rowsFrom l k r, rowOk x := by
    intro k
    induction k with
    | zero => intro r _ x hx; cases hx
    | succ k ih =>
      intro r hr x hx
      rw [rowsFrom, List.mem_cons] at hx
      rcases hx with rfl | hx
      · exact hr
      · split at hx
        · cases hx
        · exact ih _ (itR_ok hl hr 1) x hx
  exact key 800 _ (firstR_ok gg)
theorem farR_ok {l : List HS} (hl : l.all okS = true) {g : HE} (gg : GoodE g) (k : Nat) : rowOk (farR l g k) := by
  have hp := rowsG_pos l g
  unfold farR
  rw [List.getD_eq_getElem?_getD, List.getElem?_eq_getElem (by omega)]
  exact rowsG_ok hl gg _ (List.getElem_mem _)
def farE (l : List HS) (g : HE) (k : Int) : Int := if chkErr l [g] = 0 then (if fromK 0 800 [k] = false then 3 else 0) else chkErr l [g]
def farO (l : List HS) (g : HE) (k : Int) : List Int := if farE l g k = 0 then tab fun i => farR l g k.toNat i - 1 else []
set_option maxRecDepth 100000 in
set_option maxHeartbeats 8000000 in
theorem far_x (l : List HS) (g : HE) (k : Int) (n : Nat) (m : Mem) :
    CWp Try.prog 30 [.d (boxD l), .d (edgD g), .d (iD k)] n m fun y n' m' => n ≤ n' ∧ (∀ j, j < n → m' j = m j) ∧ toD4 y = some (.tup [intL (farO l g k), iD (farE l g k)]) := by
  have cb : ACall Try.prog 49 [boxD l, .list [[iD g.depth, iD g.burr]]] (.tup [.agg [boxD (chkB l [g])], iD (chkErr l [g])]) := check_c l [g] (by simp)
  have ca : ACall Try.prog 50 [iD 0, iD 800, .list [[iD k]]] (bD (fromK 0 800 [k])) := areFrom_c 0 800 [k] (by simp)
  by_cases h0 : chkErr l [g] = 0
  · obtain ⟨hb, hes⟩ := chkOk h0
    have gg := goodE (e := g) (by simpa using hes)
    have hcb : chkB l [g] = l := if_pos h0
    rw [h0, hcb] at cb
    rcases hf : fromK 0 800 [k] <;> rw [hf] at ca
    · have hE : farE l g k = 3 := by rw [farE, if_pos h0, hf]; rfl
      have hO : farO l g k = [] := by rw [farO, hE]; rfl
      rw [hE, hO]
      refine cwpK tabOk Try.func30 rfl rfl (show 3 ≤ _ by decide) rfl fun _ => ?_; simp only [Try.ntmps30]
      repeat (first | (with_reducible first | refine AWi.seqK fun _ => ?_ | refine AWi.blockK fun _ => ?_ | refine KI.go ?_) | ((first | refine AWi.region tabOk ?_ | refine AWi.condK fun _ _ => ?_); simp [-getElem?_pos, z0, z1, z2, z0]) | ((first | refine AWi.ret ?_ | refine AWi.skip ?_ | refine AWi.exit ?_); try simp only [thenP]) | (with_reducible refine BB.go ?_; simp only [blockP, thenP, reduceIte]))
      refine ExecI.call [n + 1 + 1 + 1 + 1 + 1] cb ?_ rfl ?_ ?_; (focus simp [-getElem?_pos, ]); (focus simp [-getElem?_pos, z0, z1, z2, ]); simp [-getElem?_pos, z0, z1, z2, ]
      repeat (first | (with_reducible first | refine AWi.seqK fun _ => ?_ | refine AWi.blockK fun _ => ?_ | refine KI.go ?_) | ((first | refine AWi.region tabOk ?_ | refine AWi.condK fun _ _ => ?_); simp [-getElem?_pos, z0, z1, z2, z0]) | ((first | refine AWi.ret ?_ | refine AWi.skip ?_ | refine AWi.exit ?_); try simp only [thenP]) | (with_reducible refine BB.go ?_; simp only [blockP, thenP, reduceIte]))
      refine ExecI.call [n + 1 + 1 + 1 + 1 + 1 + 1 + 1 + 1 + 1 + 1 + 1 + 1 + 1 + 1 + 1 + 1] ca ?_ rfl ?_ ?_; (focus simp [-getElem?_pos, ]); (focus simp [-getElem?_pos, z0, z1, z2, ]); simp [-getElem?_pos, z0, z1, z2, ]
      repeat (first | (with_reducible first | refine AWi.seqK fun _ => ?_ | refine AWi.blockK fun _ => ?_ | refine KI.go ?_) | ((first | refine AWi.region tabOk ?_ | refine AWi.condK fun _ _ => ?_); simp [-getElem?_pos, z0, z1, z2, z0]) | ((first | refine AWi.ret ?_ | refine AWi.skip ?_ | refine AWi.exit ?_); try simp only [thenP]) | (with_reducible refine BB.go ?_; simp only [blockP, thenP, reduceIte]))
      exact RI.ret rfl ⟨by omega, fun j hj => by (try dsimp only); repeat (first | rw [setMem_lt (by omega)] | rw [putN_lt (by omega)]), rfl⟩
    · have hE : farE l g k = 0 := by rw [farE, if_pos h0, hf]; rfl
      have hO : farO l g k = tab fun i => farR l g k.toNat i - 1 := by rw [farO, hE]; rfl
      have hk := fromK_mem hf (k := 0) (x := k) rfl
      obtain ⟨kn, rfl⟩ := Int.eq_ofNat_of_zero_le hk.1
      rw [hE, hO]
      refine cwpK tabOk Try.func30 rfl rfl (show 3 ≤ _ by decide) rfl fun _ => ?_; simp only [Try.ntmps30]
      repeat (first | (with_reducible first | refine AWi.seqK fun _ => ?_ | refine AWi.blockK fun _ => ?_ | refine KI.go ?_) | ((first | refine AWi.region tabOk ?_ | refine AWi.condK fun _ _ => ?_); simp [-getElem?_pos, z0, z1, z2, z0]) | ((first | refine AWi.ret ?_ | refine AWi.skip ?_ | refine AWi.exit ?_); try simp only [thenP]) | (with_reducible refine BB.go ?_; simp only [blockP, thenP, reduceIte]))
      refine ExecI.call [n + 1 + 1 + 1 + 1 + 1] cb ?_ rfl ?_ ?_; (focus simp [-getElem?_pos, ]); (focus simp [-getElem?_pos, z0, z1, z2, ]); simp [-getElem?_pos, z0, z1, z2, ]
      repeat (first | (with_reducible first | refine AWi.seqK fun _ => ?_ | refine AWi.blockK fun _ => ?_ | refine KI.go ?_) | ((first | refine AWi.region tabOk ?_ | refine AWi.condK fun _ _ => ?_); simp [-getElem?_pos, z0, z1, z2, z0]) | ((first | refine AWi.ret ?_ | refine AWi.skip ?_ | refine AWi.exit ?_); try simp only [thenP]) | (with_reducible refine BB.go ?_; simp only [blockP, thenP, reduceIte]))
      refine ExecI.call [n + 1 + 1 + 1 + 1 + 1 + 1 + 1 + 1 + 1 + 1 + 1 + 1 + 1 + 1 + 1 + 1] ca ?_ rfl ?_ ?_; (focus simp [-getElem?_pos, ]); (focus simp [-getElem?_pos, z0, z1, z2, ]); simp [-getElem?_pos, z0, z1, z2, ]
      repeat (first | (with_reducible first | refine AWi.seqK fun _ => ?_ | refine AWi.blockK fun _ => ?_ | refine KI.go ?_) | ((first | refine AWi.region tabOk ?_ | refine AWi.condK fun _ _ => ?_); simp [-getElem?_pos, z0, z1, z2, z0]) | ((first | refine AWi.ret ?_ | refine AWi.skip ?_ | refine AWi.exit ?_); try simp only [thenP]) | (with_reducible refine BB.go ?_; simp only [blockP, thenP, reduceIte]))
      refine AWi.drawsM mixedH 4 (by kernel_rfl) (by kernel_rfl) (by kernel_rfl) ?_
      simp only [List.take_succ_cons, List.take_zero]
      have o1 : ¬ n = n + 1 + 1 + 1 + 1 + 1 := by omega
      have o2 : ¬ n = n + 1 + 1 + 1 + 1 + 1 + 1 + 1 + 1 + 1 + 1 := by omega
      have o3 : ¬ n = n + 1 + 1 + 1 + 1 + 1 + 1 + 1 + 1 + 1 + 1 + 1 + 1 + 1 + 1 + 1 + 1 := by omega
      repeat (with_reducible refine ExecV.auto tabOk ?_; simp [-getElem?_pos, z0, z1, z2, kindV, isPure, o1, o2, o3]; try (refine And.intro (OkV_old (by simp; try omega) (by omega) (by simp [AllAcc])) ?_))
      refine ExecV.callP [] (reaches_n g _ _) (by omega) (fun i hi => by cases hi) rfl (by simp [calleeS, evList]) (OkV_old (by simp) (by omega) (by simp [AllAcc])) ?_
      repeat (with_reducible refine ExecV.auto tabOk ?_; simp [-getElem?_pos, z0, z1, z2, kindV, isPure, o1, o2, o3]; try (refine And.intro (OkV_old (by simp; try omega) (by omega) (by simp [AllAcc])) ?_))
      refine ⟨_, stepI_call (by simp [calleeS, evList]) (far_w l hb.all hb.n2 g gg (n + 1 + 1 + 1 + 1 + 1 + 1 + 1 + 1 + 1 + 1 + 1 + 1 + 1 + 1 + 1 + 1 + 1 + 1 + 1) kn (n + 1 + 1 + 1 + 1 + 1 + 1 + 1 + 1 + 1 + 1 + 1 + 1 + 1 + 1 + 1 + 1 + 1 + 1 + 1 + 1 + 1 + 1 + 1) _ (by omega) (by omega) ⟨false, by simp⟩), ?_⟩
      rintro n2 s2 ⟨y, m', ⟨hn2, hm2, rfl⟩, rfl⟩
      have hlow : ∀ j, j < n → m' j = m j := fun j hj => (hm2 j (by omega)).trans (by (try dsimp only); repeat (first | rw [setMem_lt (by omega)] | rw [putN_lt (by omega)]))
      simp only [restO, List.drop_succ_cons, List.drop_zero, List.map_cons, List.map_nil, shiftO]
      repeat (with_reducible refine ExecV.auto tabOk ?_; simp [-getElem?_pos, z0, z1, z2, kindV, isPure, z0]; try (refine And.intro (OkV_old (by simp; try omega) (by omega) (by simp [AllAcc])) ?_))
      refine ExecV.ro (x := .d (intL (tab fun i => farR l g kn i - 1))) (svs := [.agg (rowS (farR l g kn))]) [] (RCall.ofA (list_c _ (farR_ok hb.all gg kn)) rfl _) rfl rfl (by simp [calleeS, evList]) (OkV_old (by simp) (by omega) (by simp [AllAcc])) ?_
      repeat (with_reducible refine ExecV.auto tabOk ?_; simp [-getElem?_pos, z0, z1, z2, kindV, isPure, z0]; try (refine And.intro (OkV_old (by simp; try omega) (by omega) (by simp [AllAcc])) ?_))
      unfold ExecV
      simp only [thenP]
      repeat (first | (with_reducible first | refine AWi.seqK fun _ => ?_ | refine AWi.blockK fun _ => ?_ | refine KI.go ?_) | ((first | refine AWi.region tabOk ?_ | refine AWi.condK fun _ _ => ?_); simp [-getElem?_pos, z0, z1, z2, z0]) | ((first | refine AWi.ret ?_ | refine AWi.skip ?_ | refine AWi.exit ?_); try simp only [thenP]) | (with_reducible refine BB.go ?_; simp only [blockP, thenP, reduceIte]))
      exact RI.ret rfl ⟨by omega, hlow, rfl⟩
  · have hE : farE l g k = chkErr l [g] := if_neg h0
    have hO : farO l g k = [] := by rw [farO, hE, if_neg h0]
    rw [hE, hO]
    generalize chkErr l [g] = er at *
    generalize chkB l [g] = bb at *
    refine cwpK tabOk Try.func30 rfl rfl (show 3 ≤ _ by decide) rfl fun _ => ?_; simp only [Try.ntmps30]
    repeat (first | (with_reducible first | refine AWi.seqK fun _ => ?_ | refine AWi.blockK fun _ => ?_ | refine KI.go ?_) | ((first | refine AWi.region tabOk ?_ | refine AWi.condK fun _ _ => ?_); simp [-getElem?_pos, z0, z1, z2, z0]) | ((first | refine AWi.ret ?_ | refine AWi.skip ?_ | refine AWi.exit ?_); try simp only [thenP]) | (with_reducible refine BB.go ?_; simp only [blockP, thenP, reduceIte]))
    refine ExecI.call [n + 1 + 1 + 1 + 1 + 1] cb ?_ rfl ?_ ?_; (focus simp [-getElem?_pos, ]); (focus simp [-getElem?_pos, z0, z1, z2, ]); simp [-getElem?_pos, z0, z1, z2, ]
    repeat (first | (with_reducible first | refine AWi.seqK fun _ => ?_ | refine AWi.blockK fun _ => ?_ | refine KI.go ?_) | ((first | refine AWi.region tabOk ?_ | refine AWi.condK fun _ _ => ?_); simp [-getElem?_pos, z0, z1, z2, h0]) | ((first | refine AWi.ret ?_ | refine AWi.skip ?_ | refine AWi.exit ?_); try simp only [thenP]) | (with_reducible refine BB.go ?_; simp only [blockP, thenP, reduceIte]))
    exact RI.ret rfl ⟨by omega, fun j hj => by (try dsimp only); repeat (first | rw [setMem_lt (by omega)] | rw [putN_lt (by omega)]), rfl⟩
theorem far_c (l : List HS) (g : HE) (k : Int) : ACall Try.prog 30 [boxD l, edgD g, iD k] (.tup [intL (farO l g k), iD (farE l g k)]) :=
  ACall.ofR (RCall.of4 (n0 := 0) fun n _ => (far_x l g k n _).mono fun _ _ _ h => ⟨h.2.2, h.2.1⟩)
end Go.Proofs.Ytcmkkgdjhjpldaa.Eng

namespace Go.Proofs.Ytcmkkgdjhjpldaa.Eng
open Go.RowKit
abbrev strkM (m : Mem) (l : List HS) (e : HE) (R : SV) (n : Nat) : Mem :=
  setMem (setMem (setMem (only m []) n (some (.box 65 [.d (boxD l)] false))) (n + 1) (some (.box 24 [.d (iD e.depth), .d (iD e.burr)] false))) (n + 1 + 1) (some (.box 59 [.fn 79 [R] []] false))
abbrev strkF (n : Nat) : SV := .fn 90 [] [.ptr n 0 0, .ptr (n + 1) 0 0, .ptr (n + 1 + 1) 0 0]
set_option maxRecDepth 100000 in
set_option maxHeartbeats 4000000 in
theorem strokes_n (l : List HS) (e : HE) (f : Nat → Int) (n : Nat) (m : Mem) : NCall Try.prog 85 [.agg [.d (boxD l)], .agg [.d (iD e.depth), .d (iD e.burr)], .fn 79 [.d (rowD f)] []] (only m []) n (n + 1 + 1 + 1 + 1 + 1 + 1) (strkF n) (strkM m l e (.d (rowD f)) n) := by
  have no : ∀ i, only m [] i = none := fun i => by simp
  have h : CWp Try.prog 85 [.agg [.d (boxD l)], .agg [.d (iD e.depth), .d (iD e.burr)], .fn 79 [.d (rowD f)] []] n (only m []) fun y n' m' => strkF n = y ∧ n + 1 + 1 + 1 + 1 + 1 + 1 = n' ∧ strkM m l e (.d (rowD f)) n = m' := by
    refine cwpK tabOk Try.func85 rfl rfl (show 3 ≤ _ by decide) rfl fun _ => ?_; simp only [Try.ntmps85]
    repeat (first | (with_reducible first | refine AWi.seqK fun _ => ?_ | refine AWi.blockK fun _ => ?_ | refine KI.go ?_) | ((first | refine AWi.region tabOk ?_ | refine AWi.condK fun _ _ => ?_ | refine AWi.draws tabOk rfl (by kernel_rfl) (by kernel_rfl) ?_); simp [-getElem?_pos, z0, z1, z2, z0]) | ((first | refine AWi.ret ?_ | refine AWi.skip ?_ | refine AWi.exit ?_); try simp only [thenP]) | (with_reducible refine BB.go ?_; simp only [blockP, thenP, reduceIte]) | (with_reducible refine And.intro (okLog_c (by simp [footOf, guardSlot, slotsOf, idsRead, looks, idsOf, idsOf1, idsWritten, colF]; kernel_rfl)) ?_))
    exact RI.ret rfl ⟨rfl, rfl, rfl⟩
  refine NCall.of h (fun i b hb => by rw [no] at hb; cases hb) (fun i b hb => by rw [no] at hb; cases hb) (fun x hx => ?_) (fun i b hb => ?_) ?_
  · simp only [List.mem_cons, List.not_mem_nil, or_false] at hx
    rcases hx with rfl | rfl | rfl
    · exact .agg _ fun c hc => by simp at hc; subst hc; exact .d _
    · exact .agg _ fun c hc => by simp at hc; rcases hc with rfl | rfl <;> exact .d _
    · exact .fn _ _ _ (fun c hc => by simp only [List.mem_cons, List.not_mem_nil, or_false] at hc; subst hc; exact .d _) (fun c hc => by cases hc)
  · by_cases e1 : i = n + 1 + 1
    · rw [show strkM m l e (.d (rowD f)) n i = _ from if_pos e1] at hb
      cases hb
      refine ⟨.inr ⟨by omega, by omega⟩, .box _ _ _ fun c hc => ?_⟩
      simp only [List.mem_cons, List.not_mem_nil, or_false] at hc
      subst hc
      exact .fn _ _ _ (fun c hc => by simp only [List.mem_cons, List.not_mem_nil, or_false] at hc; subst hc; exact .d _) (fun c hc => by cases hc)
    · rw [show strkM m l e (.d (rowD f)) n i = _ from if_neg e1] at hb
      by_cases e2 : i = n + 1
      · rw [show setMem _ _ _ i = _ from if_pos e2] at hb
        cases hb
        exact ⟨.inr ⟨by omega, by omega⟩, .box _ _ _ fun c hc => by simp at hc; rcases hc with rfl | rfl <;> exact .d _⟩
      · rw [show setMem _ _ _ i = _ from if_neg e2] at hb
        by_cases e3 : i = n
        · rw [show setMem _ _ _ i = _ from if_pos e3] at hb
          cases hb
          exact ⟨.inr ⟨by omega, by omega⟩, .box _ _ _ fun c hc => by simp at hc; subst hc; exact .d _⟩
        · rw [show setMem _ _ _ i = _ from if_neg e3, no] at hb
          cases hb
  · refine .fn _ _ _ (fun c hc => by cases hc) fun c hc => ?_
    simp only [List.mem_cons, List.not_mem_nil, or_false] at hc
    rcases hc with rfl | rfl | rfl
    · exact .ptr _ _ _ (.inr ⟨by omega, by omega⟩)
    · exact .ptr _ _ _ (.inr ⟨by omega, by omega⟩)
    · exact .ptr _ _ _ (.inr ⟨by omega, by omega⟩)
def RowsK (rs : List (Nat → Int)) (m : Mem) (x : SV) : Prop := (rs = [] ∧ x = .nilS) ∨ ∃ id z, x = .own id rs.length 7 ∧ m id = some (.row 83 7 (rowsD rs) z)
def CourseK (l : List HS) (rs : List (Nat → Int)) (m : Mem) (c : Nat) : Prop := ∃ x z, m c = some (.box 81 [.d (boxD l), x] z) ∧ RowsK rs m x
def onwX (l : List HS) (rs : List (Nat → Int)) (e : HE) : Nat → List (Nat × HE)
  | 0 => []
  | k + 1 => strks l e (rs.getD k fun _ => 0)
theorem course_lt {l : List HS} {rs : List (Nat → Int)} {c : Nat} {I : Nat → (Nat → Prop) → Mem → Prop} (hI : StableN I) (hK : ∀ n O m, I n O m → CourseK l rs m c) {n : Nat} {O : Nat → Prop} {m : Mem} (hi : I n O m) {id z : Nat} {k : Nat} {u : Bool} (hc : m c = some (.box 81 [.d (boxD l), .own id k z] u)) : c < n ∧ id < n := by
  have h1 := (hI.lt hi (k := c) fun n O m h => by obtain ⟨x, u, h, -⟩ := hK _ _ _ h; rw [h]; simp).1
  refine ⟨h1, Classical.byContradiction fun hn => ?_⟩
  obtain ⟨x, u2, e1, e2⟩ := hK _ _ _ (hI n O m n O (setMem m id none) (Nat.le_refl _) (fun _ h => .inl h) (fun j hj _ => if_neg (by omega)) hi)
  rw [show setMem m id none c = m c from if_neg (by omega), hc] at e1
  cases e1
  rcases e2 with ⟨-, e⟩ | ⟨id2, z2, e, e3⟩
  · cases e
  · cases e
    rw [show setMem m id none id = none from if_pos rfl] at e3
    cases e3
set_option maxRecDepth 100000 in
set_option maxHeartbeats 8000000 in
theorem onward1_2 (l : List HS) (hl : l.all okS = true) (hn6 : l.length ≤ 6) (rs : List (Nat → Int)) (hrs : rs.length ≤ 800) (e : HE) (ge : GoodE e) (k : Nat) (hk : k ≤ rs.length) (kn kc ke c : Nat) :
    Iterates2 Try.prog 84 (fun Y => [Y, .ptr kn 0 0, .ptr kc 0 0, .ptr ke 0 0]) ((onwX l rs e k).map strkV) fun m =>
      (∃ z, m kn = some (.box 3 [.d (iD (k : Nat))] z)) ∧ (∃ z, m kc = some (.box 73 [.ptr c 0 0] z)) ∧ (∃ z, m ke = some (.box 24 [.d (iD e.depth), .d (iD e.burr)] z)) ∧ CourseK l rs m c := by
  intro Y I J hY hI hJ hK hy n m h0
  obtain ⟨⟨u1, hkn⟩, ⟨u2, hkc⟩, ⟨u3, hke⟩, ⟨x, u4, hc, hx⟩⟩ := hK _ _ _ _ h0
  have lkn := ((hI 0).lt h0 (k := kn) fun n O m h => by obtain ⟨⟨u, h⟩, -⟩ := hK _ _ _ _ h; rw [h]; simp).1
  have lkc := ((hI 0).lt h0 (k := kc) fun n O m h => by obtain ⟨-, ⟨u, h⟩, -⟩ := hK _ _ _ _ h; rw [h]; simp).1
  have lke := ((hI 0).lt h0 (k := ke) fun n O m h => by obtain ⟨-, -, ⟨u, h⟩, -⟩ := hK _ _ _ _ h; rw [h]; simp).1
  cases k with
  | zero =>
    refine cwpK tabOk Try.func84 rfl rfl (show 4 ≤ _ by decide) rfl fun _ => ?_; simp only [Try.ntmps84]
    repeat (first | (with_reducible first | refine AWi.seqK fun _ => ?_ | refine AWi.blockK fun _ => ?_ | refine KI.go ?_) | ((first | refine AWi.region tabOk ?_ | refine AWi.condK fun _ _ => ?_ | refine AWi.draws tabOk rfl (by kernel_rfl) (by kernel_rfl) ?_); simp [-getElem?_pos, z0, z1, z2, hkn]) | ((first | refine AWi.ret ?_ | refine AWi.skip ?_ | refine AWi.exit ?_); try simp only [thenP]) | (with_reducible refine BB.go ?_; simp only [blockP, thenP, reduceIte]))
    exact RI.ret rfl ⟨by omega, fun _ => False, fun _ h => h.elim, .inl (hI _ _ _ _ _ _ _ (by omega) (fun _ h => h.elim) (fun _ _ _ => rfl) h0)⟩
  | succ k =>
    rcases hx with ⟨rfl, -⟩ | ⟨id, u5, rfl, hid⟩
    · exact absurd hk (by simp)
    have hkr : k < rs.length := hk
    obtain ⟨lc, lid⟩ := course_lt (hI 0) (fun n O m h => (hK _ _ _ _ h).2.2.2) h0 hc
    have hget : rs[k]? = some (rs.getD k fun _ => 0) := by rw [List.getD_eq_getElem?_getD, List.getElem?_eq_getElem hkr]; rfl
    rw [show onwX l rs e (k + 1) = strks l e (rs.getD k fun _ => 0) from rfl] at hy ⊢
    generalize (rs.getD k fun _ => 0) = q at *
    have w1 : IntKind.i64.wrap (k : Int) = (k : Int) := wrap64_in (by omega)
    have hrow : (rowsD rs)[k]? = some ((tab q).map iD) := by rw [rowsD, List.getElem?_map, hget]; rfl
    have hk1 : ¬ ((k : Int) + 1 = 0) := by omega
    refine cwpK tabOk Try.func84 rfl rfl (show 4 ≤ _ by decide) rfl fun _ => ?_; simp only [Try.ntmps84]
    repeat (first | (with_reducible first | refine AWi.seqK fun _ => ?_ | refine AWi.blockK fun _ => ?_ | refine KI.go ?_) | ((first | refine AWi.region tabOk ?_ | refine AWi.condK fun _ _ => ?_); simp [-getElem?_pos, z0, z1, z2, hkn, hk1]) | ((first | refine AWi.ret ?_ | refine AWi.skip ?_ | refine AWi.exit ?_); try simp only [thenP]) | (with_reducible refine BB.go ?_; simp only [blockP, thenP, reduceIte]))
    refine AWi.drawsT tabOk (by kernel_rfl) 16 (by kernel_rfl) (by kernel_rfl) ?_
    simp only [List.take_succ_cons, List.take_zero, List.drop_succ_cons, List.drop_zero]
    repeat (with_reducible refine ExecV.auto tabOk ?_; simp [-getElem?_pos, z0, z1, z2, kindV, isPure, hkn, hkc, hke, hc, hid, w1, hkr, hrow, lkn, lkc, lke, lc, lid]; try (refine And.intro (OkV_old (by simp; try omega) (by omega) (by simp [AllAcc])) ?_))
    show ExecV _ _ _ _ _ _ _ _ _ _
    refine ExecV.callP [] (strokes_n l e q (n + 1 + 1) m) (by omega) (fun i hi => by cases hi) rfl (by simp [calleeS, evList]) (OkV_old (by simp) (by omega) (by simp [AllAcc])) ?_
    repeat (with_reducible refine ExecV.auto tabOk ?_; simp [-getElem?_pos, z0, z1, z2, kindV, isPure, z0]; try (refine And.intro (OkV_old (by simp; try omega) (by omega) (by simp [AllAcc])) ?_))
    show ExecW _ _ _ _ _ _ _ _ _
    have hput : ∀ j, j < n + 1 + 1 → putN m (n + 1 + 1) (n + 1 + 1 + 1 + 1 + 1 + 1 + 1 + 1) (strkM m l e (.d (rowD q)) (n + 1 + 1)) j = m j := fun j hj => putN_lt (by omega)
    refine ExecI.callC (strokes1_2 l hl hn6 e ge q (.d (rowD q)) .d (n + 1 + 1) (n + 1 + 1 + 1) (n + 1 + 1 + 1 + 1) Y
      (fun i nn O mm => n + 1 + 1 + 1 + 1 + 1 + 1 + 1 + 1 ≤ nn ∧ (∀ j, O j → n + 1 + 1 + 1 + 1 + 1 + 1 + 1 + 1 ≤ j) ∧ I i nn (fun j => O j ∨ (n ≤ j ∧ j < n + 1 + 1 + 1 + 1 + 1 + 1 + 1 + 1)) mm ∧ mm (n + 1 + 1) = some (.box 65 [.d (boxD l)] false) ∧ mm (n + 1 + 1 + 1) = some (.box 24 [.d (iD e.depth), .d (iD e.burr)] false) ∧ mm (n + 1 + 1 + 1 + 1) = some (.box 59 [.fn 79 [.d (rowD q)] []] false))
      (fun nn O mm => n + 1 + 1 + 1 + 1 + 1 + 1 + 1 + 1 ≤ nn ∧ (∀ j, O j → n + 1 + 1 + 1 + 1 + 1 + 1 + 1 + 1 ≤ j) ∧ J nn (fun j => O j ∨ (n ≤ j ∧ j < n + 1 + 1 + 1 + 1 + 1 + 1 + 1 + 1)) mm) hY ?_ ?_ (fun i nn O mm h => ⟨⟨_, h.2.2.2.1⟩, ⟨_, h.2.2.2.2.1⟩, ⟨_, h.2.2.2.2.2⟩⟩) ?_ _ _ ⟨by omega, fun _ h => h.elim, hI 0 n _ m _ _ _ (by omega) (fun j hj => .inr (by rcases hj with h | h; exact h.elim; omega)) (fun j hj _ => hput j (by omega)) h0, ?_, ?_, ?_⟩) (by simp [-getElem?_pos, z0, z1, z2]) (by simp [calleeS, evList]) ?_
    · rintro i n2 O m2 n3 O3 m3 h1 h2 h3 ⟨a, b, c, d1, d2, d3⟩
      have hO : ∀ j, O3 j → n + 1 + 1 + 1 + 1 + 1 + 1 + 1 + 1 ≤ j := fun j hj => (h2 j hj).elim (b j) fun h => by omega
      have hlow : ∀ j, j < n + 1 + 1 + 1 + 1 + 1 + 1 + 1 + 1 → m3 j = m2 j := fun j hj => h3 j (by omega) fun ho => by have := hO j ho; omega
      exact ⟨by omega, hO, hI i _ _ _ _ _ _ h1 (fun j hj => hj.elim (fun h => (h2 j h).imp_left .inl) fun h => .inl (.inr h)) (fun j hj ho => h3 j hj fun h => ho (.inl h)) c, (hlow _ (by omega)).trans d1, (hlow _ (by omega)).trans d2, (hlow _ (by omega)).trans d3⟩
    · rintro n2 O m2 n3 O3 m3 h1 h2 h3 ⟨a, b, c⟩
      have hO : ∀ j, O3 j → n + 1 + 1 + 1 + 1 + 1 + 1 + 1 + 1 ≤ j := fun j hj => (h2 j hj).elim (b j) fun h => by omega
      exact ⟨by omega, hO, hJ _ _ _ _ _ _ h1 (fun j hj => hj.elim (fun h => (h2 j h).imp_left .inl) fun h => .inl (.inr h)) (fun j hj ho => h3 j hj fun h => ho (.inl h)) c⟩
    · rintro i n2 O m2 x hx hOn ⟨a, b, c, d1, d2, d3⟩
      refine (hy i n2 _ m2 x hx (fun j hj => hj.elim (hOn j) fun h => by omega) c).mono ?_
      rintro y n3 m3 ⟨h1, h2, h3⟩
      refine ⟨h1, fun j hj => h2 j (.inl hj), ?_⟩
      rcases h3 with ⟨rfl, h3⟩ | ⟨rfl, h3⟩
      · exact .inl ⟨rfl, by omega, b, h3, (h2 _ (.inr (by omega))).trans d1, (h2 _ (.inr (by omega))).trans d2, (h2 _ (.inr (by omega))).trans d3⟩
      · exact .inr ⟨rfl, by omega, b, h3⟩
    · simp
    · simp
    · simp
    rintro y n' m' ⟨hn', O, hO, hf⟩
    simp [-getElem?_pos, z0, z1, z2]
    repeat (first | (with_reducible first | refine AWi.seqK fun _ => ?_ | refine AWi.blockK fun _ => ?_ | refine KI.go ?_) | ((first | refine AWi.region tabOk ?_ | refine AWi.condK fun _ _ => ?_); simp [-getElem?_pos, z0, z1, z2, z0]) | ((first | refine AWi.ret ?_ | refine AWi.skip ?_ | refine AWi.exit ?_); try simp only [thenP]) | (with_reducible refine BB.go ?_; simp only [blockP, thenP, reduceIte]))
    refine RI.normal rfl ⟨by omega, fun j => O j ∨ (n ≤ j ∧ j < n + 1 + 1 + 1 + 1 + 1 + 1 + 1 + 1), fun j hj => by rcases hj with h | h; have := hO j h; omega; omega, ?_⟩
    rcases hf with hf | hf
    · exact .inl hf.2.2.1
    · exact .inr hf.2.2
end Go.Proofs.Ytcmkkgdjhjpldaa.Eng

namespace Go.Proofs.Ytcmkkgdjhjpldaa
open Go.RowKit
section
variable {P : Program}
theorem run_copy_wide (w : World) (dT sT ty elem : TypeId) (size g n dCap : Nat) (a : Addr) (sCap : Nat) (cur : Array Value) (t : TypeId) (cs : List Value)
    (hu : P.underlying dT = some (.slice elem)) (hs : (P.info? elem).map (·.size) = some size)
    (hg : w.heap[g]? = some (.cells cur t (0, 0))) (hn : cs.length = n * size)
    (hsrc : ∀ j v, cs[j]? = some v → w.cell? (a.add j) = some v) (hfit : cs.length ≤ cur.size) (h1 : ∀ v ∈ cs, v.oneCell' = true) :
    (Builtin.copy_ #[dT, sT] ty #[.slice (some ⟨g, 0, none⟩) n dCap, .slice (some a) n sCap]).run P w =
      .ok (goInt n) (w.setRow g (cs ++ cur.toList.drop cs.length).toArray) := by
  have hl := run_loadCells_list (P := P) w a cs hsrc
  have hst := run_storeCells_at P g 0 t cs 0 cur w hg (by simpa using hfit) h1
  simp only [Nat.zero_add, List.take_zero, List.nil_append] at hst
  cases hq : P.info? elem with
  | none => simp [hq] at hs
  | some i =>
    have hi : i.size = size := by simpa [hq] using hs
    have hm : Nat.min n n = n := Nat.min_self n
    simp [Builtin.copy_, run_underlying hu, Builtin.lenOf, Builtin.firstCells, sizeOf, typeInfo, hq, hi, hm, ← hn, hl, hst]
theorem run_copy_empty (w : World) (dT sT ty elem : TypeId) (size g dCap c : Nat) (hu : P.underlying dT = some (.slice elem)) (hs : (P.info? elem).map (·.size) = some size) :
    (Builtin.copy_ #[dT, sT] ty #[.slice (some ⟨g, 0, none⟩) 0 dCap, .slice none 0 c]).run P w = .ok (goInt 0) w := by
  cases hq : P.info? elem with
  | none => simp [hq] at hs
  | some i => simp [Builtin.copy_, run_underlying hu, Builtin.lenOf, Builtin.firstCells, sizeOf, typeInfo, hq, storeCells]
end
end Go.Proofs.Ytcmkkgdjhjpldaa

namespace Go.Proofs.Ytcmkkgdjhjpldaa.Eng
open Go.RowKit
variable {P : Program} {T : Tab} {r : Option Nat} {ns n : Nat} {s : St}
theorem setMem_id {m : Mem} {i : Nat} {b : Option Blk} (h : m i = b) : setMem m i b = m := by
  funext j
  unfold setMem
  split
  · rename_i e; rw [e, h]
  · rfl
theorem stepI_copy1 (hT : TabOk P T) {o : Oper} {x y : Operand} {t t' e ty : TypeId} {i ie : TI} (ho : o.op = .call { callee := .builtin .copy, args := #[x, y], argTypes := #[t, t'] }) (hi : T t = some i) (hk : i.kind = .slice e) (hie : T e = some ie) (h1 : ie.size = 1) {id k : Nat} {rows rows0 : List (List Dat)} (hl : rows.length = k) (hl0 : rows0.length = k) (hr1 : ∀ q ∈ rows, q.length = 1)
    (hx : opd ns s x = some (.own id k 1)) (hm : s.mem id = some (.row ty 1 rows0 false)) (hy : opd ns s y = some (.d (.list rows))) :
    StepI P r ns n s o fun n' s' => n' = n ∧ s' = ⟨setSlot s.slots o.dst (.d (.val (.int .i64 k))), setMem s.mem id (some (.row ty 1 rows false))⟩ := by
  intro W0 R0 B E a w hin h hd K Q hK
  refine oper_in (fun c e => by rw [ho] at e; cases e) ?_
  have hu := slice_und (hT t i hi) hk
  have hsz : (P.info? e).map (·.size) = some 1 := by
    obtain ⟨inf, z, a1, a2, -⟩ := (hT e ie hie).info
    rw [a1, ← h1, ← a2]; rfl
  obtain ⟨u, hu'⟩ : ∃ u, a.eval x = u := ⟨_, rfl⟩
  obtain ⟨v, hv'⟩ : ∃ v, a.eval y = v := ⟨_, rfl⟩
  have hrx := h.opd hx
  have hry := h.opd hy
  rw [hu'] at hrx
  rw [hv'] at hry
  subst hl
  cases hrx with
  | own _ _ _ hdm hz =>
  cases hry with
  | d _ _ hry =>
  cases hry with
  | list _ A c f q1 q2 q3 q4 q5 =>
  have hro : ¬ E.ro (E.home id).blk := fun k => by have := (h.frz id _ hm).2 k; cases this
  cases h.mem id _ hm with
  | row _ _ _ _ cur g1 g2 g3 g4 g5 g6 g7 g8 =>
  cases hrow : rows with
  | nil =>
    subst hrow
    obtain rfl : rows0 = [] := List.length_eq_zero_iff.1 hl0
    have hrun : (Builtin.copy_ #[t, t'] o.type #[.slice (some ⟨(E.home id).blk, 0, none⟩) 0 (E.home id).cap, .slice A 0 c]).run P w = .ok (goInt 0) w := by
      cases A with
      | none => exact run_copy_empty w t t' o.type e 1 (E.home id).blk (E.home id).cap c hu hsz
      | some ad =>
        have := run_copy_wide w t t' o.type e 1 (E.home id).blk 0 (E.home id).cap ad c cur ty [] hu hsz g1 (by simp) (fun j v h => by simp at h) (by simp) (fun v h => by cases h)
        rw [this]
        have e1 : (([] : List Value) ++ cur.toList.drop ([] : List Value).length).toArray = cur := by simp
        rw [e1, setRow_self _ _ _ _ _ g1]; rfl
    have he : (execOp a.eval o).run P w = .ok (.value (goInt 0)) w := by
      simp only [execOp, ho, resolve, invoke, builtin, Sem.run_bind, Sem.run_pure, Result.andThen_ok, List.map_toArray, List.map_cons, List.map_nil, hu', hv', List.length_nil, hrun]
    unfold Oper.wp
    rw [he]
    refine hK n _ E _ _ ⟨rfl, ?_⟩ (h.put hd (rep_val (u := goInt 0) rfl))
    rw [setMem_id hm]
    rfl
  | cons r0 rest =>
    have hpos : 0 < rows.length := by rw [hrow]; simp
    obtain ⟨b, off, esz, rfl, hb, hz1, hcell⟩ := q4 hpos
    obtain rfl : esz = 1 := by rw [← hz1 r0 (by rw [hrow]; simp), hr1 r0 (by rw [hrow]; simp)]
    let cs : List Value := (List.range rows.length).map fun i => f i 0
    have hcl : cs.length = rows.length := by simp [cs]
    have hcj : ∀ (j : Nat) v, cs[j]? = some v → j < rows.length ∧ v = f j 0 := fun j v hv => by
      simp only [cs, List.getElem?_map, Option.map_eq_some_iff] at hv
      obtain ⟨q, hq, rfl⟩ := hv
      obtain ⟨hq1, hq2⟩ := List.getElem?_eq_some_iff.1 hq
      simp at hq1 hq2
      subst hq2
      exact ⟨hq1, rfl⟩
    have hrep : ∀ (j : Nat) (hj : j < rows.length), ∃ d, rows[j] = [d] ∧ RepD E.ro w d (f j 0) ∧ d.one = true := fun j hj => by
      have h2 := hr1 rows[j] (List.getElem_mem hj)
      obtain ⟨d, hd2⟩ := List.length_eq_one_iff.1 h2
      exact ⟨d, hd2, q5 j 0 rows[j] d (List.getElem?_eq_getElem hj) (by rw [hd2]; rfl), q3 rows[j] (List.getElem_mem hj) d (by rw [hd2]; simp)⟩
    have hcap : rows.length ≤ cur.size := by rw [g3, ← hl0]; omega
    have hone : ∀ v ∈ cs, v.oneCell' = true := fun v hv => by
      obtain ⟨j, hj⟩ := List.mem_iff_getElem?.1 hv
      obtain ⟨h3, rfl⟩ := hcj j v hj
      obtain ⟨d, -, h4, h5⟩ := hrep j h3
      exact h4.one h5
    have hrun := run_copy_wide (P := P) w t t' o.type e 1 (E.home id).blk rows.length (E.home id).cap ⟨b, off, none⟩ c cur ty cs hu hsz g1 (by rw [hcl, Nat.mul_one]) (fun j v hv => by
      obtain ⟨h3, rfl⟩ := hcj j v hv
      have := hcell j 0 h3 (by omega)
      rw [Nat.mul_one, Nat.add_zero] at this
      by_cases hj0 : j = 0
      · subst hj0; simpa [Addr.add] using this
      · simpa [Addr.add, hj0] using this) (by rw [hcl]; exact hcap) hone
    have he : (execOp a.eval o).run P w = .ok (.value (goInt rows.length)) (w.setRow (E.home id).blk (cs ++ cur.toList.drop cs.length).toArray) := by
      simp only [execOp, ho, resolve, invoke, builtin, Sem.run_bind, Sem.run_pure, Result.andThen_ok, List.map_toArray, List.map_cons, List.map_nil, hu', hv', hrun]
    have hw : ∀ b, E.ro b → (w.setRow (E.home id).blk (cs ++ cur.toList.drop cs.length).toArray).heap[b]? = w.heap[b]? := fun b hb => setRow_other _ _ _ _ (fun e => hro (e ▸ hb))
    have h6 : Sim W0 R0 ns (· < n) ⟨s.slots, setMem s.mem id (some (.row ty 1 rows false))⟩ E a (w.setRow (E.home id).blk (cs ++ cur.toList.drop cs.length).toArray) :=
      h.write hm rfl rfl (grown_setRow _ _ _) (.row ty 1 rows false _ (setRow_heap _ _ _ _ _ _ g1) g2 (by simp; omega) (by rw [← hl0]; exact g4) g5 hr1 q3 fun i j q c v hq hc hv => by
        have hi2 := (List.getElem?_eq_some_iff.1 hq).1
        have hj0 : j = 0 := by
          have := (List.getElem?_eq_some_iff.1 hc).1
          rw [hr1 q (List.mem_of_getElem? hq)] at this
          omega
        subst hj0
        have h7 := q5 i 0 q c hq hc
        rw [Nat.mul_one, Nat.add_zero, List.getElem?_toArray, List.getElem?_append_left (by rw [hcl]; exact hi2)] at hv
        obtain ⟨-, rfl⟩ := hcj i v hv
        exact h7.keep (fun _ h => h) hw)
    unfold Oper.wp
    rw [he]
    exact hK n _ E _ _ ⟨rfl, rfl⟩ (h6.put hd (rep_val rfl))
theorem ExecS.copy1 (hT : TabOk P T) {ops : Array Oper} {o : Oper} {lo : List Oper} {Q : Nat → St → Prop} {x y : Operand} {c : Call} {t t' e ty : TypeId} {i ie : TI} (ho : o.op = .call c) (hc1 : c.callee = .builtin .copy) (hc2 : c.args.toList = [x, y]) (hc3 : c.argTypes.toList = [t, t']) (hg : guardS ops ns s o = some true) (hi : T t = some i) (hk : i.kind = .slice e) (hie : T e = some ie) (h1 : ie.size = 1) {id k : Nat} {rows rows0 : List (List Dat)} (hl : rows.length = k) (hl0 : rows0.length = k) (hr1 : ∀ q ∈ rows, q.length = 1)
    (hx : opd ns s x = some (.own id k 1)) (hm : s.mem id = some (.row ty 1 rows0 false)) (hy : opd ns s y = some (.d (.list rows)))
    (h : ExecS P r ns ops n lo ⟨setSlot s.slots o.dst (.d (.val (.int .i64 k))), setMem s.mem id (some (.row ty 1 rows false))⟩ Q) : ExecS P r ns ops n (o :: lo) s Q :=
  ⟨hg, _, stepI_copy1 hT (by rw [call_eq hc1 hc2 hc3] at ho; exact ho) hi hk hie h1 hl hl0 hr1 hx hm hy, fun n' s' ⟨e1, e2⟩ => by rw [e1, e2]; exact h⟩
end Go.Proofs.Ytcmkkgdjhjpldaa.Eng

namespace Go.Proofs.Ytcmkkgdjhjpldaa.Eng
open Go.RowKit
set_option maxRecDepth 100000 in
set_option maxHeartbeats 4000000 in
theorem grown_c (L : List Int) (x : Int) (hl : L.length ≤ 1000) : ACall Try.prog 69 [intL L, iD x] (intL (L ++ [x])) := by
  have b1 : fitsB (L.length + 1) 8 = true := fitsB_small (by omega) (by omega)
  refine acallK tabOk Try.func69 rfl rfl (show 2 ≤ _ by decide) rfl fun _ => ?_; simp only [Try.ntmps69]
  repeat (first | (with_reducible first | refine zq1 fun _ => ?_ | refine zq2 fun _ => ?_ | refine zq3 ?_) | ((first | refine zq4 ?_ | refine zq5 fun _ _ => ?_ | refine zq6 ?_); simp [-getElem?_pos, z0, z1, z2, b1]) | ((first | refine AWp.ret ?_ | refine AWp.skip ?_ | refine AWp.exit ?_); try simp only [thenP]) | (with_reducible refine zq7 ?_; simp only [blockP, thenP, reduceIte]) | with_reducible refine zq8 ?_)
  (first | refine RR.ret ?_ | refine RR.normal ?_); simp []
set_option maxRecDepth 100000 in
set_option maxHeartbeats 4000000 in
theorem taken_w (L : List Int) (hl : L.length ≤ 1000) (n : Nat) (m : Mem) : CWp Try.prog 70 [.d (intL L)] n m fun y _ m' => (∃ id z ty, n ≤ id ∧ y = .own id (iRows L).length z ∧ m' id = some (.row ty z (iRows L) false)) ∧ ∀ j, j < n → m' j = m j := by
  have b1 : 8 * (L.length : Int) ≤ 140737488355328 := by omega
  have b2 : (L.length : Int) ≤ 9223372036854775807 := by omega
  refine cwpK tabOk Try.func70 rfl rfl (show 1 ≤ _ by decide) rfl fun _ => ?_; simp only [Try.ntmps70]
  refine AWi.seqK fun _ => ?_
  refine AWi.region tabOk ?_
  simp [-getElem?_pos, z0, z1, z2]
  with_reducible refine KI.go ?_
  refine AWi.seqK fun _ => ?_
  refine AWi.region tabOk ?_
  simp [-getElem?_pos, z0, z1, z2, b1, b2]
  with_reducible refine KI.go ?_
  refine AWi.seqK fun _ => ?_
  refine AWi.regionS ?_
  refine ExecS.plain tabOk (out := { res := .own (n + 1 + 1 + 1) L.length 1 }) rfl rfl (by simp [-getElem?_pos, z0, z1, z2]) ?_
  refine ExecS.plain tabOk (out := { res := .d (intL L) }) rfl rfl (by simp [-getElem?_pos, z0, z1, z2]) ?_
  refine ExecS.copy1 tabOk (ty := 3) (id := n + 1 + 1 + 1) (k := L.length) (rows := iRows L) (rows0 := List.replicate L.length [.val (.int .i64 0)]) rfl rfl rfl rfl rfl (TB25) rfl (TB3) rfl (by simp [iRows]) (by simp) (by simp [iRows]) (by simp [-getElem?_pos, z0, z1, z2]) (by simp [putS]) (by simp [-getElem?_pos, z0, z1, z2]) ?_
  simp [putS, ExecS]
  with_reducible refine KI.go ?_
  repeat (first | (with_reducible first | refine AWi.seqK fun _ => ?_ | refine AWi.blockK fun _ => ?_ | refine KI.go ?_) | ((first | refine AWi.region tabOk ?_ | refine AWi.condK fun _ _ => ?_ | refine AWi.draws tabOk rfl (by kernel_rfl) (by kernel_rfl) ?_); simp [-getElem?_pos, z0, z1, z2, z0]) | ((first | refine AWi.ret ?_ | refine AWi.skip ?_ | refine AWi.exit ?_); try simp only [thenP]) | (with_reducible refine BB.go ?_; simp only [blockP, thenP, reduceIte]) | (with_reducible refine And.intro (okLog_c (by simp [footOf, guardSlot, slotsOf, idsRead, looks, idsOf, idsOf1, idsWritten, colF]; kernel_rfl)) ?_))
  first
    | exact RI.ret rfl ⟨⟨n + 1 + 1 + 1, 1, 3, by omega, by simp [iRows, retV], by simp⟩, fun j hj => by simp [show ¬ j = n + 1 + 1 + 1 by omega]⟩
    | exact RI.normal rfl ⟨⟨n + 1 + 1 + 1, 1, 3, by omega, by simp [iRows, retV], by simp⟩, fun j hj => by simp [show ¬ j = n + 1 + 1 + 1 by omega]⟩
theorem taken_c (L : List Int) (hl : L.length ≤ 1000) : ACall Try.prog 70 [intL L] (intL L) :=
  ACall.ofR (RCall.ofOwn (n0 := 0) fun n _ => taken_w L hl n _)
abbrev onwF (n : Nat) : SV := .fn 84 [] [.ptr (n + 1 + 1) 0 0, .ptr n 0 0, .ptr (n + 1) 0 0]
abbrev onwM (m : Mem) (c : Nat) (e : HE) (k n : Nat) : Mem :=
  setMem (setMem (setMem m n (some (.box 73 [.ptr c 0 0] false))) (n + 1) (some (.box 24 [.d (iD e.depth), .d (iD e.burr)] false))) (n + 1 + 1) (some (.box 3 [.d (iD (k : Nat))] false))
set_option maxRecDepth 100000 in
set_option maxHeartbeats 4000000 in
theorem onward_w (c : Nat) (e : HE) (k n : Nat) (m : Mem) : CWp Try.prog 75 [.ptr c 0 0, .agg [.d (iD e.depth), .d (iD e.burr)], .d (iD (k : Nat))] n m fun y n' m' => onwF n = y ∧ n + 1 + 1 + 1 + 1 + 1 + 1 = n' ∧ onwM m c e k n = m' := by
  refine cwpK tabOk Try.func75 rfl rfl (show 3 ≤ _ by decide) rfl fun _ => ?_; simp only [Try.ntmps75]
  repeat (first | (with_reducible first | refine AWi.seqK fun _ => ?_ | refine AWi.blockK fun _ => ?_ | refine KI.go ?_) | ((first | refine AWi.region tabOk ?_ | refine AWi.condK fun _ _ => ?_ | refine AWi.draws tabOk rfl (by kernel_rfl) (by kernel_rfl) ?_); simp [-getElem?_pos, z0, z1, z2, z0]) | ((first | refine AWi.ret ?_ | refine AWi.skip ?_ | refine AWi.exit ?_); try simp only [thenP]) | (with_reducible refine BB.go ?_; simp only [blockP, thenP, reduceIte]) | (with_reducible refine And.intro (okLog_c (by simp [footOf, guardSlot, slotsOf, idsRead, looks, idsOf, idsOf1, idsWritten, colF]; kernel_rfl)) ?_))
  exact RI.ret rfl ⟨rfl, rfl, rfl⟩
end Go.Proofs.Ytcmkkgdjhjpldaa.Eng

namespace Go.Proofs.Ytcmkkgdjhjpldaa.Eng
open Go.RowKit
theorem AWi.scope0 {P : Program} {r : Option Nat} {ns n : Nat} {c : Code} {s : St} {Q : Post} (h : AWi P r ns c n s (fun e n s => (∀ l, e ≠ .goto l) ∧ Q e n s)) : AWi P r ns (.scope c) n s Q :=
  AWi.scope (AWs.of (h.mono fun e n s ⟨h1, h2⟩ => by
    cases e with
    | goto l => exact absurd rfl (h1 l)
    | _ => exact h2))
def bestG (l : List HS) (rs : List (Nat → Int)) : Nat → HE → List Int
  | 0, _ => []
  | k + 1, e => match onwX l rs e (k + 1) with
    | [] => []
    | x :: _ => (x.1 : Int) :: bestG l rs k x.2
def listV : List Int → SV
  | [] => .nilS
  | x :: L => .d (intL (x :: L))
theorem listV_len (L : List Int) : lenSV (listV L) = some L.length := by
  cases L <;> simp [listV]
theorem listV_toD (L : List Int) : toD4 (listV L) = some (intL L) := by cases L <;> rfl
theorem CourseAt.k {l : List HS} {rs : List (Nat → Int)} {m m' : Mem} {c lo n : Nat} (h : CourseAt l rs m c lo n) (hm : ∀ j, j < n → m' j = m j) : CourseK l rs m' c := by
  obtain ⟨x, h1, h2, h3, h4⟩ := h
  refine ⟨x, false, (hm c h2).trans h3, ?_⟩
  rcases h4 with h4 | ⟨id, a, b, d, e⟩
  · exact .inl h4
  · exact .inr ⟨id, false, d, (hm id b).trans e⟩
structure BI (l : List HS) (rs : List (Nat → Int)) (e0 : HE) (c n : Nat) (m : Mem) (ss : List Int) (e : HE) (k : Nat) (n1 : Nat) (s : St) : Prop where
  le : n + 1 + 1 + 1 ≤ n1
  s0 : s.slots 0 = .ptr c 0 0
  s3 : s.slots 3 = .ptr n 0 0
  s5 : s.slots 5 = .ptr (n + 1 + 1) 0 0
  me : s.mem n = some (.box 24 [.d (iD e.depth), .d (iD e.burr)] false)
  ms : s.mem (n + 1 + 1) = some (.box 25 [listV ss] false)
  low : ∀ j, j < n → s.mem j = m j
  len : ss.length + k = rs.length
  fin : ss ++ bestG l rs k e = bestG l rs rs.length e0
  ge : GoodE e
set_option maxRecDepth 100000 in
set_option maxHeartbeats 8000000 in
theorem best_w (l : List HS) (hl : l.all okS = true) (hn6 : l.length ≤ 6) (rs : List (Nat → Int)) (hrs : rs.length ≤ 800) (e0 : HE) (ge0 : GoodE e0) (c lo n : Nat) (m : Mem) (hc : CourseAt l rs m c lo n) :
    CWp Try.prog 56 [.ptr c 0 0, .agg [.d (iD e0.depth), .d (iD e0.burr)]] n m fun y _ m' => y = .d (intL (bestG l rs rs.length e0)) ∧ ∀ j, j < n → m' j = m j := by
  refine cwpK tabOk Try.func56 rfl rfl (show 2 ≤ _ by decide) rfl fun _ => ?_; simp only [Try.ntmps56]
  refine AWi.seqK fun _ => ?_
  refine AWi.region tabOk ?_
  simp [-getElem?_pos, z0, z1, z2]
  with_reducible refine KI.go ?_
  repeat (first | (with_reducible first | refine AWi.seqK fun _ => ?_ | refine AWi.blockK fun _ => ?_ | refine KI.go ?_) | ((first | refine AWi.region tabOk ?_ | refine AWi.condK fun _ _ => ?_); simp [-getElem?_pos, z0, z1, z2, z0]) | ((first | refine AWi.ret ?_ | refine AWi.skip ?_ | refine AWi.exit ?_); try simp only [thenP]) | (with_reducible refine BB.go ?_; simp only [blockP, thenP, reduceIte]))
  refine AWi.scope0 ?_
  repeat (first | (with_reducible first | refine AWi.seqK fun _ => ?_ | refine AWi.blockK fun _ => ?_ | refine KI.go ?_) | ((first | refine AWi.region tabOk ?_ | refine AWi.condK fun _ _ => ?_); simp [-getElem?_pos, z0, z1, z2, z0]) | ((first | refine AWi.ret ?_ | refine AWi.skip ?_ | refine AWi.exit ?_); try simp only [thenP]) | (with_reducible refine BB.go ?_; simp only [blockP, thenP, reduceIte]))
  refine AWi.label ?_
  simp only [thenP]
  repeat (first | (with_reducible first | refine AWi.seqK fun _ => ?_ | refine AWi.blockK fun _ => ?_ | refine KI.go ?_) | ((first | refine AWi.region tabOk ?_ | refine AWi.condK fun _ _ => ?_); simp [-getElem?_pos, z0, z1, z2, z0]) | ((first | refine AWi.ret ?_ | refine AWi.skip ?_ | refine AWi.exit ?_); try simp only [thenP]) | (with_reducible refine BB.go ?_; simp only [blockP, thenP, reduceIte]))
  refine AWi.loopK (ι := List Int × HE × Nat) (fun p n1 s => BI l rs e0 c n m p.1 p.2.1 p.2.2 n1 s) (fun p => p.2.2) ([], e0, rs.length) ?_ ?_
  · exact ⟨by omega, by simp, by simp, by simp, by simp, by simp [listV], fun j hj => by simp [show ¬ j = n by omega, show ¬ j = n + 1 + 1 by omega], by simp, by simp, ge0⟩
  rintro ⟨ss, e, k⟩ n1 s ⟨hle, s0, s3, s5, me, ms, low, len, fin, ge⟩ kk
  simp only at s0 s3 s5 me ms low len fin ge
  obtain ⟨x, hcl, hch, hcc, hcx⟩ := id hc
  have mc : s.mem c = some (.box 81 [.d (boxD l), x] false) := (low c hch).trans hcc
  have hlx : lenSV x = some rs.length := by
    rcases hcx with ⟨rfl, rfl⟩ | ⟨id, -, -, rfl, -⟩
    · rfl
    · rfl
  have w1 : IntKind.i64.wrap ((rs.length : Int) - (ss.length : Int)) = (k : Int) := by rw [wrap64_in (by omega)]; omega
  have hls := listV_len ss
  repeat (first | (with_reducible first | refine AWi.seqK fun _ => ?_ | refine AWi.blockK fun _ => ?_ | refine KI.go ?_) | ((first | refine AWi.region tabOk ?_ | refine AWi.condK fun _ _ => ?_); simp [-getElem?_pos, z0, z1, z2, z0]) | ((first | refine AWi.ret ?_ | refine AWi.skip ?_ | refine AWi.exit ?_); try simp only [thenP]) | (with_reducible refine BB.go ?_; simp only [blockP, thenP, reduceIte]))
  have a1 : n < n1 := by omega
  have a2 : n + 1 + 1 < n1 := by omega
  have a3 : c < n1 := by omega
  refine AWi.mono (Q := fun ex n2 s2 => ex = .normal ∧ n2 = n1 + 1 + 1 + 1 + 1 + 1 + 1 ∧ s2.slots 0 = .ptr c 0 0 ∧ s2.slots 3 = .ptr n 0 0 ∧ s2.slots 5 = .ptr (n + 1 + 1) 0 0 ∧ s2.slots 18 = onwF n1 ∧ s2.mem = onwM s.mem c e k n1) ?_ ?_
  · rcases hcx with ⟨rfl, rfl⟩ | ⟨id, b1, b2, rfl, b3⟩ <;> rcases ss with _ | ⟨s1, ss⟩ <;> simp only [listV] at ms hls hlx <;> simp only [List.length_nil, List.length_cons, Int.natCast_add, Int.cast_ofNat_Int, Int.sub_zero, Int.sub_self] at w1
    all_goals
      refine AWi.drawsT tabOk (by kernel_rfl) 10 (by kernel_rfl) (by kernel_rfl) ?_
      simp only [List.take_succ_cons, List.take_zero, List.drop_succ_cons, List.drop_zero]
    all_goals
      repeat (with_reducible refine ExecV.auto tabOk ?_; simp [-getElem?_pos, z0, z1, z2, kindV, isPure, s0, s3, s5, me, ms, mc, w1, a1, a2, a3]; try (refine And.intro (OkV_old (by simp; try omega) (by omega) (by simp [AllAcc])) ?_))
    all_goals
      show ExecW _ _ _ _ _ _ _ _ _
      refine ExecI.callC (onward_w c e k _ _) rfl (by simp [calleeS, evList, iD]; try exact w1) ?_
      rintro y n' m' ⟨rfl, rfl, rfl⟩
      simp [-getElem?_pos, z0, z1, z2, s0, s3, s5]
  rintro ex n2 s2 ⟨rfl, rfl, t0, t3, t5, t18, tm⟩
  simp only [thenP]
  repeat (first | (with_reducible first | refine AWi.seqK fun _ => ?_ | refine AWi.blockK fun _ => ?_ | refine KI.go ?_) | ((first | refine AWi.region tabOk ?_ | refine AWi.condK fun _ _ => ?_); simp [-getElem?_pos, z0, z1, z2, z0]) | ((first | refine AWi.ret ?_ | refine AWi.skip ?_ | refine AWi.exit ?_); try simp only [thenP]) | (with_reducible refine BB.go ?_; simp only [blockP, thenP, reduceIte]))
  refine AWi.iterK2 (onward1_2 l hl hn6 rs hrs e ge k (by omega) (n1 + 1 + 1) n1 (n1 + 1) c) (f := 84) (us := []) (vs := [.ptr (n1 + 1 + 1) 0 0, .ptr n1 0 0, .ptr (n1 + 1) 0 0]) (by simp [opd, evList, t18]) (fun _ => rfl) (fun _ h => by cases h) rfl (by intro z hz; obtain ⟨x, _, rfl⟩ := List.mem_map.1 hz; rfl)
    (fun i nn O mm => i = 0 ∧ n1 + 1 + 1 + 1 + 1 + 1 + 1 ≤ nn ∧ (∀ j, O j → n1 + 1 + 1 + 1 + 1 + 1 + 1 ≤ j) ∧ ∀ j, j < n1 + 1 + 1 + 1 + 1 + 1 + 1 → mm j = s2.mem j)
    (fun cd nn O mm => cd = .exit 1 ∧ n1 + 1 + 1 + 1 + 1 + 1 + 1 ≤ nn ∧ (∀ j, O j → n1 + 1 + 1 + 1 + 1 + 1 + 1 ≤ j) ∧ ∃ x0 : Nat × HE, (onwX l rs e k)[0]? = some x0 ∧ mm n = some (.box 24 [.d (iD x0.2.depth), .d (iD x0.2.burr)] false) ∧ mm (n + 1 + 1) = some (.box 25 [.d (intL (ss ++ [(x0.1 : Int)]))] false) ∧ ∀ j, j < n → mm j = m j) ?_ ?_ ?_ ?_ ?_ ?_ ?_
  · rintro i nn O mm n3 O3 m3 h1 h2 h3 ⟨a, b, c1, d⟩
    have hO : ∀ j, O3 j → n1 + 1 + 1 + 1 + 1 + 1 + 1 ≤ j := fun j hj => (h2 j hj).elim (c1 j) fun h => by omega
    exact ⟨a, by omega, hO, fun j hj => (h3 j (by omega) fun ho => by have := hO j ho; omega).trans (d j hj)⟩
  · rintro cd nn O mm n3 O3 m3 h1 h2 h3 ⟨a, b, c1, x0, d1, d2, d3, d4⟩
    have hO : ∀ j, O3 j → n1 + 1 + 1 + 1 + 1 + 1 + 1 ≤ j := fun j hj => (h2 j hj).elim (c1 j) fun h => by omega
    have hlow : ∀ j, j < n1 + 1 + 1 + 1 + 1 + 1 + 1 → m3 j = mm j := fun j hj => h3 j (by omega) fun ho => by have := hO j ho; omega
    exact ⟨a, by omega, hO, x0, d1, (hlow _ (by omega)).trans d2, (hlow _ (by omega)).trans d3, fun j hj => (hlow _ (by omega)).trans (d4 j hj)⟩
  · rintro i nn O mm ⟨-, -, -, d⟩
    refine ⟨⟨false, (d _ (by omega)).trans ?_⟩, ⟨false, (d _ (by omega)).trans ?_⟩, ⟨false, (d _ (by omega)).trans ?_⟩, hc.k fun j hj => (d j (by omega)).trans ?_⟩
    · rw [tm]; simp
    · rw [tm]; simp
    · rw [tm]; simp
    · rw [tm]; simp [show ¬ j = n1 by omega, show ¬ j = n1 + 1 by omega, show ¬ j = n1 + 1 + 1 by omega, low j hj]
  · exact ⟨rfl, by omega, fun _ h => h.elim, fun _ _ => rfl⟩
  · rintro i n3 O m3 z hz hn3 hOn ⟨rfl, b, c1, d⟩ kr
    rw [List.getElem?_map, Option.map_eq_some_iff] at hz
    obtain ⟨⟨st, x0⟩, hx0, rfl⟩ := hz
    repeat (first | (with_reducible first | refine AWi.seqK fun _ => ?_ | refine AWi.blockK fun _ => ?_ | refine KI.go ?_) | ((first | refine AWi.region tabOk ?_ | refine AWi.condK fun _ _ => ?_); simp [-getElem?_pos, z0, z1, z2, putAll, strkV]) | ((first | refine AWi.ret ?_ | refine AWi.skip ?_ | refine AWi.exit ?_); try simp only [thenP]) | (with_reducible refine BB.go ?_; simp only [blockP, thenP, reduceIte]))
    refine RB2.go (by omega) (fun j hj => by simp [show ¬ j = n3 + 1 by omega]) fun rc hrc qq => ?_
    have me3 : m3 n = some (.box 24 [.d (iD e.depth), .d (iD e.burr)] false) := (d n (by omega)).trans (by rw [tm]; simp [show ¬ n = n1 by omega, show ¬ n = n1 + 1 by omega, show ¬ n = n1 + 1 + 1 by omega, me])
    have ms3 : m3 (n + 1 + 1) = some (.box 25 [listV ss] false) := (d _ (by omega)).trans (by rw [tm]; simp [show ¬ n + 1 + 1 = n1 by omega, show ¬ n + 1 + 1 = n1 + 1 by omega, show ¬ n + 1 = n1 by omega, show ¬ n = n1 by omega, ms])
    have f1 : ¬ n = n1 + 1 + 1 + 1 + 1 + 1 + 1 := by omega
    have f2 : ¬ n = n3 + 1 := by omega
    have f3 : ¬ n + 1 + 1 = n1 + 1 + 1 + 1 + 1 + 1 + 1 := by omega
    have f4 : ¬ n + 1 + 1 = n3 + 1 := by omega
    have f5 : ¬ n3 + 1 = n1 + 1 + 1 + 1 + 1 + 1 + 1 := by omega
    have f6 : ¬ n + 1 = n3 := by omega
    have f7 : ¬ n = n + 1 + 1 := by omega
    have f8 : ¬ n + 1 + 1 = n := by omega
    have f9 : ¬ n3 + 1 = n := by omega
    have f10 : ¬ n = n1 + 4 := by omega
    have f11 : ¬ n3 = n1 + 5 := by omega
    have a4 : n < n3 + 1 + 1 + 1 := by omega
    have a5 : n + 1 + 1 < n3 + 1 + 1 + 1 := by omega
    repeat (first | (with_reducible first | refine AWi.seqK fun _ => ?_ | refine AWi.blockK fun _ => ?_ | refine KI.go ?_) | ((first | refine AWi.region tabOk ?_ | refine AWi.condK fun _ _ => ?_); simp [-getElem?_pos, z0, z1, z2, z0]) | ((first | refine AWi.ret ?_ | refine AWi.skip ?_ | refine AWi.exit ?_); try simp only [thenP]) | (with_reducible refine BB.go ?_; simp only [blockP, thenP, reduceIte]))
    refine AWi.drawsV mixedH (by kernel_rfl) ?_
    repeat (with_reducible refine ExecV.auto tabOk ?_; simp [-getElem?_pos, z0, z1, z2, kindV, isPure, t3, t5, me3, ms3, f1, f2, f3, f4, f5, f6, f7, f8, f9, f10, f11, a4, a5]; try (refine And.intro (OkV_old (by simp; try omega) (by omega) (by simp [AllAcc])) ?_))
    refine ExecV.ro (x := .d (intL (ss ++ [(st : Int)]))) (svs := [listV ss, .d (iD (st : Int))]) [] (RCall.ofA4 (grown_c ss st (by omega)) (by rw [mapO, listV_toD]; rfl) _) rfl rfl (by simp [calleeS, evList]) (OkV_old (by simp; try omega) (by omega) (by simp [AllAcc])) ?_
    repeat (with_reducible refine ExecV.auto tabOk ?_; simp [-getElem?_pos, z0, z1, z2, kindV, isPure, t3, t5, me3, ms3, f1, f2, f3, f4, f5, f6, f7, f8, f9, f10, f11, a4, a5]; try (refine And.intro (OkV_old (by simp; try omega) (by omega) (by simp [AllAcc])) ?_))
    refine And.intro ⟨fun id hid => ⟨by simp at hid; subst hid; simp; omega, .inl ⟨by simp at hid; omega, ?_⟩⟩, .inr ?_⟩ ?_
    · simp [AllAcc]
    · simp only [AllAcc]
      exact ⟨.inl (by kernel_rfl), .inr (by simp), .inr (by simp), .inr (by simp; omega), trivial⟩
    repeat (with_reducible refine ExecV.auto tabOk ?_; simp [-getElem?_pos, z0, z1, z2, kindV, isPure, t3, t5, me3, ms3, f1, f2, f3, f4, f5, f6, f7, f8, f9, f10, f11, a4, a5]; try (refine And.intro (OkV_old (by simp; try omega) (by omega) (by simp [AllAcc])) ?_))
    refine And.intro ⟨fun id hid => ⟨by simp at hid; subst hid; simp; omega, .inl ⟨by simp at hid; omega, ?_⟩⟩, .inr ?_⟩ ?_
    · simp at hid; subst hid; simp [AllAcc]
    · simp only [AllAcc]
      exact ⟨.inr (by simp), .inr (by simp), .inr (by simp), .inr (by simp; omega), .inr (by simp), trivial⟩
    repeat (with_reducible refine ExecV.auto tabOk ?_; simp [-getElem?_pos, z0, z1, z2, kindV, isPure, t3, t5, me3, ms3, f1, f2, f3, f4, f5, f6, f7, f8, f9, f10, f11, a4, a5]; try (refine And.intro (OkV_old (by simp; try omega) (by omega) (by simp [AllAcc])) ?_))
    unfold ExecV
    simp only [thenP]
    repeat (first | (with_reducible first | refine AWi.seqK fun _ => ?_ | refine AWi.blockK fun _ => ?_ | refine KI.go ?_) | ((first | refine AWi.region tabOk ?_ | refine AWi.condK fun _ _ => ?_); simp [-getElem?_pos, z0, z1, z2, z0]) | ((first | refine AWi.ret ?_ | refine AWi.skip ?_ | refine AWi.exit ?_); try simp only [thenP]) | (with_reducible refine BB.go ?_; simp only [blockP, thenP, reduceIte]))
    refine RE2.exit (by omega) (fun j hj => ?_) ⟨rfl, by omega, c1, (st, x0), hx0, by simp, by simp [f8], fun j hj => ?_⟩
    · have h8 := c1 j hj
      simp [show ¬ j = n by omega, show ¬ j = n + 1 + 1 by omega]
    · have h9 : m3 j = m j := (d j (by omega)).trans (by rw [tm]; simp [show ¬ j = n1 by omega, show ¬ j = n1 + 1 by omega, show ¬ j = n1 + 1 + 1 by omega, low j hj])
      simp [show ¬ j = n by omega, show ¬ j = n + 1 + 1 by omega, show ¬ j = n3 + 1 by omega, show ¬ j = n1 + 1 + 1 + 1 + 1 + 1 + 1 by omega, h9]
  · rintro n' O m' hn' hO ⟨h0, -, -, d⟩
    have hx0 : onwX l rs e k = [] := by
      rw [List.length_map] at h0
      exact List.length_eq_zero_iff.1 h0
    have hb : bestG l rs k e = [] := by
      cases k with
      | zero => rfl
      | succ k => rw [bestG, hx0]
    rw [hb, List.append_nil] at fin
    have ms4 : m' (n + 1 + 1) = some (.box 25 [listV ss] false) := (d _ (by omega)).trans (by rw [tm]; simp [show ¬ n + 1 + 1 = n1 by omega, show ¬ n + 1 + 1 = n1 + 1 by omega, show ¬ n + 1 = n1 by omega, show ¬ n = n1 by omega, ms])
    repeat (first | (with_reducible first | refine AWi.seqK fun _ => ?_ | refine AWi.blockK fun _ => ?_ | refine KI.go ?_) | ((first | refine AWi.region tabOk ?_ | refine AWi.condK fun _ _ => ?_); simp [-getElem?_pos, z0, z1, z2, t5, ms4]) | ((first | refine AWi.ret ?_ | refine AWi.skip ?_ | refine AWi.exit ?_); try simp only [thenP]) | (with_reducible refine BB.go ?_; simp only [blockP, thenP, reduceIte]))
    refine ExecI.callC ((RCall.ofA4 (taken_c ss (by omega)) (svs := [listV ss]) (by simp [mapO, listV_toD]) _).cwp (fun _ _ h => h) (x := .d (intL ss)) rfl _) rfl (by simp [calleeS, evList]) ?_
    rintro y n9 m9 ⟨rfl, rfl, rfl⟩
    simp [-getElem?_pos, z0, z1, z2]
    repeat (first | (with_reducible first | refine AWi.seqK fun _ => ?_ | refine AWi.blockK fun _ => ?_ | refine KI.go ?_) | ((first | refine AWi.region tabOk ?_ | refine AWi.condK fun _ _ => ?_); simp [-getElem?_pos, z0, z1, z2, z0]) | ((first | refine AWi.ret ?_ | refine AWi.skip ?_ | refine AWi.exit ?_); try simp only [thenP]) | (with_reducible refine BB.go ?_; simp only [blockP, thenP, reduceIte]))
    exact ⟨by simp, RI.ret rfl ⟨by rw [← fin]; rfl, fun j hj => (d j (by omega)).trans (by rw [tm]; simp [show ¬ j = n1 by omega, show ¬ j = n1 + 1 by omega, show ¬ j = n1 + 1 + 1 by omega, low j hj])⟩⟩
  · rintro cd n' O m' hn' hO ⟨rfl, -, -, x0, d1, d2, d3, d4⟩
    simp only [afterP, thenP]
    repeat (first | (with_reducible first | refine AWi.seqK fun _ => ?_ | refine AWi.blockK fun _ => ?_ | refine KI.go ?_) | ((first | refine AWi.region tabOk ?_ | refine AWi.condK fun _ _ => ?_); simp [-getElem?_pos, z0, z1, z2, z0]) | ((first | refine AWi.ret ?_ | refine AWi.skip ?_ | refine AWi.exit ?_); try simp only [thenP]) | (with_reducible refine BB.go ?_; simp only [blockP, thenP, reduceIte]))
    rw [if_neg (by decide)]
    repeat (first | (with_reducible first | refine AWi.seqK fun _ => ?_ | refine AWi.blockK fun _ => ?_ | refine KI.go ?_) | ((first | refine AWi.region tabOk ?_ | refine AWi.condK fun _ _ => ?_); simp [-getElem?_pos, z0, z1, z2, z0]) | ((first | refine AWi.ret ?_ | refine AWi.skip ?_ | refine AWi.exit ?_); try simp only [thenP]) | (with_reducible refine BB.go ?_; simp only [blockP, thenP, reduceIte]))
    cases k with
    | zero => cases d1
    | succ k =>
      have hbx : bestG l rs (k + 1) e = (x0.1 : Int) :: bestG l rs k x0.2 := by
        rw [bestG]
        cases hox : onwX l rs e (k + 1) with
        | nil => rw [hox] at d1; cases d1
        | cons y ys => rw [hox] at d1; cases d1; rfl
      have gx : GoodE x0.2 := by
        obtain ⟨st, xe⟩ := x0
        obtain ⟨sx, hsx, hX, hxe⟩ := strks_of (show (strks l e (rs.getD k fun _ => 0))[0]? = some (st, xe) from d1)
        rw [hxe]
        simp only [strX, Bool.and_eq_true] at hX
        exact GoodE.str (goodS hl hsx) ge hX.1
      refine LI.go (ss ++ [(x0.1 : Int)], x0.2, k) ⟨by omega, t0, t3, t5, d2, (by rw [show listV (ss ++ [(x0.1 : Int)]) = .d (intL (ss ++ [(x0.1 : Int)])) by cases ss <;> rfl]; exact d3), d4, by simp; omega, by rw [List.append_assoc]; show ss ++ ((x0.1 : Int) :: bestG l rs k x0.2) = _; rw [← hbx]; exact fin, gx⟩ (by simp)
end Go.Proofs.Ytcmkkgdjhjpldaa.Eng

namespace Go.Proofs.Ytcmkkgdjhjpldaa.Eng
open Go.RowKit
def bestO (l : List HS) (e g : HE) : List Int := if chkErr l [e, g] = 0 then (match needN l g e with
  | some k => bestG l ((rowsG l g).take k) k e
  | none => []) else []
theorem rows_take {l : List HS} {g e : HE} {k : Nat} (h : needN l g e = some k) : ((rowsG l g).take k).length = k ∧ k ≤ 800 := by
  have h1 : k < (rowsG l g).length := by
    have := List.findIdx?_eq_some_iff_getElem.1 h
    exact this.1
  have h2 : (rowsG l g).length ≤ 800 := rowsFrom_le l 800 (firstR g)
  rw [List.length_take]
  omega
set_option maxRecDepth 100000 in
set_option maxHeartbeats 8000000 in
theorem best_x (l : List HS) (e g : HE) (n : Nat) (m : Mem) :
    CWp Try.prog 21 [.d (boxD l), .d (edgD e), .d (edgD g)] n m fun y _ m' => (∀ j, j < n → m' j = m j) ∧ toD4 y = some (.tup [intL (bestO l e g), iD (reachE l g e)]) := by
  refine cwpK tabOk Try.func21 rfl rfl (show 3 ≤ _ by decide) rfl fun _ => ?_; simp only [Try.ntmps21]
  repeat (first | (with_reducible first | refine AWi.seqK fun _ => ?_ | refine AWi.blockK fun _ => ?_ | refine KI.go ?_) | ((first | refine AWi.region tabOk ?_ | refine AWi.condK fun _ _ => ?_); simp [-getElem?_pos, z0, z1, z2, z0]) | ((first | refine AWi.ret ?_ | refine AWi.skip ?_ | refine AWi.exit ?_); try simp only [thenP]) | (with_reducible refine BB.go ?_; simp only [blockP, thenP, reduceIte]))
  refine ExecI.callC (checkReach_w l e g _ _) rfl (by simp [calleeS, evList]) ?_
  rintro y n1 m1 ⟨hn1, hm1, hy⟩
  have hlow : ∀ j, j < n → m1 j = m j := fun j hj => (hm1 j (by omega)).trans (by (try dsimp only); repeat (first | rw [setMem_lt (by omega)] | rw [putN_lt (by omega)]))
  have he : m1 n = some (.box 24 [.d (iD e.depth), .d (iD e.burr)] false) := (hm1 n (by omega)).trans (by simp)
  by_cases h0 : chkErr l [e, g] = 0
  · rw [if_pos h0] at hy
    obtain ⟨hb, hes⟩ := chkOk h0
    have ge := goodE (e := e) (by simp at hes; exact hes.1)
    obtain ⟨k, hneed⟩ | hneed : (∃ k, needN l g e = some k) ∨ needN l g e = none := by
      cases needN l g e
      · exact .inr rfl
      · exact .inl ⟨_, rfl⟩
    · rw [hneed] at hy
      obtain ⟨c, rfl, hc⟩ := hy
      obtain ⟨hk1, hk2⟩ := rows_take hneed
      have hE : reachE l g e = 0 := by rw [reachE, if_pos h0, hneed]
      have hmin : min k (rowsG l g).length = k := by rw [← List.length_take]; exact hk1
      have hO : bestO l e g = bestG l ((rowsG l g).take k) k e := by rw [bestO, if_pos h0, hneed]
      simp [-getElem?_pos, z0, z1, z2]
      repeat (first | (with_reducible first | refine AWi.seqK fun _ => ?_ | refine AWi.blockK fun _ => ?_ | refine KI.go ?_) | ((first | refine AWi.region tabOk ?_ | refine AWi.condK fun _ _ => ?_); simp [-getElem?_pos, z0, z1, z2, he]) | ((first | refine AWi.ret ?_ | refine AWi.skip ?_ | refine AWi.exit ?_); try simp only [thenP]) | (with_reducible refine BB.go ?_; simp only [blockP, thenP, reduceIte]))
      refine ExecI.callC (best_w l hb.all hb.n2 ((rowsG l g).take k) (by omega) e ge c n _ _ (hc.wide (by omega) (by omega))) rfl (by simp [calleeS, evList]) ?_
      rintro y n2 m2 ⟨rfl, hm2⟩
      simp [-getElem?_pos, z0, z1, z2]
      repeat (first | (with_reducible first | refine AWi.seqK fun _ => ?_ | refine AWi.blockK fun _ => ?_ | refine KI.go ?_) | ((first | refine AWi.region tabOk ?_ | refine AWi.condK fun _ _ => ?_); simp [-getElem?_pos, z0, z1, z2, z0]) | ((first | refine AWi.ret ?_ | refine AWi.skip ?_ | refine AWi.exit ?_); try simp only [thenP]) | (with_reducible refine BB.go ?_; simp only [blockP, thenP, reduceIte]))
      exact RI.ret rfl ⟨fun j hj => (hm2 j (by omega)).trans (hlow j hj), by rw [hE, hO]; simp only [hmin]; rfl⟩
    · rw [hneed] at hy
      subst hy
      have hE : reachE l g e = 13 := by rw [reachE, if_pos h0, hneed]
      have hO : bestO l e g = [] := by rw [bestO, if_pos h0, hneed]
      simp [-getElem?_pos, z0, z1, z2]
      repeat (first | (with_reducible first | refine AWi.seqK fun _ => ?_ | refine AWi.blockK fun _ => ?_ | refine KI.go ?_) | ((first | refine AWi.region tabOk ?_ | refine AWi.condK fun _ _ => ?_); simp [-getElem?_pos, z0, z1, z2, z0]) | ((first | refine AWi.ret ?_ | refine AWi.skip ?_ | refine AWi.exit ?_); try simp only [thenP]) | (with_reducible refine BB.go ?_; simp only [blockP, thenP, reduceIte]))
      exact RI.ret rfl ⟨hlow, by rw [hE, hO]; rfl⟩
  · rw [if_neg h0] at hy
    subst hy
    have hE : reachE l g e = chkErr l [e, g] := if_neg h0
    have hO : bestO l e g = [] := if_neg h0
    simp [-getElem?_pos, z0, z1, z2]
    repeat (first | (with_reducible first | refine AWi.seqK fun _ => ?_ | refine AWi.blockK fun _ => ?_ | refine KI.go ?_) | ((first | refine AWi.region tabOk ?_ | refine AWi.condK fun _ _ => ?_); simp [-getElem?_pos, z0, z1, z2, h0]) | ((first | refine AWi.ret ?_ | refine AWi.skip ?_ | refine AWi.exit ?_); try simp only [thenP]) | (with_reducible refine BB.go ?_; simp only [blockP, thenP, reduceIte]))
    exact RI.ret rfl ⟨hlow, by rw [hE, hO]; rfl⟩
theorem best_c (l : List HS) (e g : HE) : ACall Try.prog 21 [boxD l, edgD e, edgD g] (.tup [intL (bestO l e g), iD (reachE l g e)]) :=
  ACall.ofR (RCall.of4 (n0 := 0) fun n _ => (best_x l e g n _).mono fun _ _ _ h => ⟨h.2, h.1⟩)
set_option maxRecDepth 100000 in
set_option maxHeartbeats 8000000 in
theorem last_x (l : List HS) (g : HE) (n : Nat) (m : Mem) :
    CWp Try.prog 32 [.d (boxD l), .d (edgD g)] n m fun y _ m' => (∀ j, j < n → m' j = m j) ∧ toD4 y = some (.tup [intL (farO l g 800), iD (farE l g 800)]) := by
  refine cwpK tabOk Try.func32 rfl rfl (show 2 ≤ _ by decide) rfl fun _ => ?_; simp only [Try.ntmps32]
  repeat (first | (with_reducible first | refine AWi.seqK fun _ => ?_ | refine AWi.blockK fun _ => ?_ | refine KI.go ?_) | ((first | refine AWi.region tabOk ?_ | refine AWi.condK fun _ _ => ?_); simp [-getElem?_pos, z0, z1, z2, z0]) | ((first | refine AWi.ret ?_ | refine AWi.skip ?_ | refine AWi.exit ?_); try simp only [thenP]) | (with_reducible refine BB.go ?_; simp only [blockP, thenP, reduceIte]))
  refine ExecI.callC ((RCall.ofA4 (far_c l g 800) (svs := [.d (boxD l), .agg [.d (iD g.depth), .d (iD g.burr)], .d (iD 800)]) rfl _).cwp (fun _ _ h => h) (x := .d (.tup [intL (farO l g 800), iD (farE l g 800)])) rfl _) rfl (by simp [calleeS, evList, iD]) ?_
  rintro y n1 m1 ⟨rfl, rfl, rfl⟩
  simp [-getElem?_pos, z0, z1, z2]
  repeat (first | (with_reducible first | refine AWi.seqK fun _ => ?_ | refine AWi.blockK fun _ => ?_ | refine KI.go ?_) | ((first | refine AWi.region tabOk ?_ | refine AWi.condK fun _ _ => ?_); simp [-getElem?_pos, z0, z1, z2, z0]) | ((first | refine AWi.ret ?_ | refine AWi.skip ?_ | refine AWi.exit ?_); try simp only [thenP]) | (with_reducible refine BB.go ?_; simp only [blockP, thenP, reduceIte]))
  exact RI.ret rfl ⟨fun j hj => by (try dsimp only); repeat (first | rw [setMem_lt (by omega)] | rw [putN_lt (by omega)]), rfl⟩
theorem last_c (l : List HS) (g : HE) : ACall Try.prog 32 [boxD l, edgD g] (.tup [intL (farO l g 800), iD (farE l g 800)]) :=
  ACall.ofR (RCall.of4 (n0 := 0) fun n _ => (last_x l g n _).mono fun _ _ _ h => ⟨h.2, h.1⟩)
end Go.Proofs.Ytcmkkgdjhjpldaa.Eng

namespace Go.Proofs.Ytcmkkgdjhjpldaa.Eng
open Go.RowKit
def atL (L : List Int) (i : Nat) : Int := L.getD i 0
theorem atL_of {L : List Int} {i : Nat} {x : Int} (h : L[i]? = some x) : atL L i = x := by rw [atL, List.getD_eq_getElem?_getD, h]; rfl
def descTo (L : List Int) (k : Nat) : Bool := (List.range k).all fun i => i == 0 || decide (atL L i ≤ atL L (i - 1))
def rowOfB (L : List Int) : Bool := decide (L.length = 7) && fromK (-1) 100 L && descTo L 7
def rowOfR (L : List Int) : Nat → Int := if rowOfB L then fun i => atL L i + 1 else fun _ => 0
theorem descTo_succ (L : List Int) (k : Nat) : descTo L (k + 1) = (descTo L k && (k == 0 || decide (atL L k ≤ atL L (k - 1)))) := by
  simp [descTo, List.range_succ, List.all_append]
set_option maxRecDepth 100000 in
set_option maxHeartbeats 8000000 in
theorem rowOf_x (L : List Int) (hl : L.length ≤ 1000000) (n : Nat) (m : Mem) :
    CWp Try.prog 76 [.d (intL L)] n m fun y _ m' => (∀ j, j < n → m' j = m j) ∧ toD3 y = some (.tup [rowD (rowOfR L), bD (rowOfB L)]) := by
  have ca := areFrom_c (-1) 100 L hl
  by_cases h7 : L.length = 7
  · have h7i : (L.length : Int) = 7 := by omega
    rcases hf : fromK (-1) 100 L <;> rw [hf] at ca
    · have hB : rowOfB L = false := by simp [rowOfB, hf]
      have hR : rowOfR L = fun _ => 0 := by rw [rowOfR, hB]; rfl
      refine cwpK tabOk Try.func76 rfl rfl (show 1 ≤ _ by decide) rfl fun _ => ?_; simp only [Try.ntmps76]
      repeat (first | (with_reducible first | refine AWi.seqK fun _ => ?_ | refine AWi.blockK fun _ => ?_ | refine KI.go ?_) | ((first | refine AWi.region tabOk ?_ | refine AWi.condK fun _ _ => ?_ | refine AWi.draws tabOk rfl (by kernel_rfl) (by kernel_rfl) ?_); simp [-getElem?_pos, z0, z1, z2, h7i]) | ((first | refine AWi.ret ?_ | refine AWi.skip ?_ | refine AWi.exit ?_); try simp only [thenP]) | (with_reducible refine BB.go ?_; simp only [blockP, thenP, reduceIte]))
      refine ExecI.call [] ca ?_ rfl ?_ ?_; (focus simp [-getElem?_pos, h7i]); (focus simp [-getElem?_pos, z0, z1, z2, h7i]); simp [-getElem?_pos, z0, z1, z2, h7i]
      repeat (first | (with_reducible first | refine AWi.seqK fun _ => ?_ | refine AWi.blockK fun _ => ?_ | refine KI.go ?_) | ((first | refine AWi.region tabOk ?_ | refine AWi.condK fun _ _ => ?_ | refine AWi.draws tabOk rfl (by kernel_rfl) (by kernel_rfl) ?_); simp [-getElem?_pos, z0, z1, z2, h7i]) | ((first | refine AWi.ret ?_ | refine AWi.skip ?_ | refine AWi.exit ?_); try simp only [thenP]) | (with_reducible refine BB.go ?_; simp only [blockP, thenP, reduceIte]))
      refine RI.ret (xs := [.agg (rowS fun _ => 0), .d (bD false)]) (by simp [Try.results76, resSlots, resSlot, bD]; rfl) ?_
      refine ⟨fun j hj => ?_, by rw [hB, hR]; rfl⟩
      simp [show ¬ j = n by omega, show ¬ j = n + 1 + 1 by omega]
    · have key : ∀ k, k ≤ 7 → descTo L 7 = true → descTo L k = true := fun k hk h => by
        rw [descTo, List.all_eq_true] at h ⊢
        exact fun i hi => h i (by rw [List.mem_range] at hi ⊢; omega)
      refine cwpK tabOk Try.func76 rfl rfl (show 1 ≤ _ by decide) rfl fun _ => ?_; simp only [Try.ntmps76]
      repeat (first | (with_reducible first | refine AWi.seqK fun _ => ?_ | refine AWi.blockK fun _ => ?_ | refine KI.go ?_) | ((first | refine AWi.region tabOk ?_ | refine AWi.condK fun _ _ => ?_ | refine AWi.draws tabOk rfl (by kernel_rfl) (by kernel_rfl) ?_); simp [-getElem?_pos, z0, z1, z2, h7i]) | ((first | refine AWi.ret ?_ | refine AWi.skip ?_ | refine AWi.exit ?_); try simp only [thenP]) | (with_reducible refine BB.go ?_; simp only [blockP, thenP, reduceIte]))
      refine ExecI.call [] ca ?_ rfl ?_ ?_; (focus simp [-getElem?_pos, h7i]); (focus simp [-getElem?_pos, z0, z1, z2, h7i]); simp [-getElem?_pos, z0, z1, z2, h7i]
      repeat (first | (with_reducible first | refine AWi.seqK fun _ => ?_ | refine AWi.blockK fun _ => ?_ | refine KI.go ?_) | ((first | refine AWi.region tabOk ?_ | refine AWi.condK fun _ _ => ?_ | refine AWi.draws tabOk rfl (by kernel_rfl) (by kernel_rfl) ?_); simp [-getElem?_pos, z0, z1, z2, h7i]) | ((first | refine AWi.ret ?_ | refine AWi.skip ?_ | refine AWi.exit ?_); try simp only [thenP]) | (with_reducible refine BB.go ?_; simp only [blockP, thenP, reduceIte]))
      refine AWi.loopK (ι := { k : Nat // k ≤ 7 }) (fun k n1 s => n + 1 + 1 + 1 ≤ n1 ∧ s.slots 0 = .d (intL L) ∧ s.slots 2 = .ptr n 0 0 ∧ s.slots 4 = .ptr (n + 1 + 1) 0 0 ∧ s.slots 16 = .d (intL L) ∧ s.slots 17 = .d (iD 7) ∧ s.slots 18 = .d (iD k.1) ∧ s.mem n = some (.box 83 (rowS fun _ => 0) false) ∧ s.mem (n + 1 + 1) = some (.box 83 (rowS fun i => if i < k.1 then atL L i + 1 else 0) false) ∧ (∀ j, j < n → s.mem j = m j) ∧ descTo L k.1 = true) (fun k => 7 - k.1) ⟨0, by omega⟩ ?_ ?_
      · exact ⟨by omega, by simp, by simp, by simp, by simp, by simp [iD], by simp [iD], by simp; rfl, by simp; rfl, fun j hj => by simp [show ¬ j = n by omega, show ¬ j = n + 1 + 1 by omega], rfl⟩
      rintro ⟨k, hk⟩ n1 s ⟨hle, s0, s2, s4, s16, s17, s18, mn, mr, low, hd⟩ kk
      simp only at s18 mr hd
      have w1 : IntKind.i64.wrap ((k : Int) + 1) = (k : Int) + 1 := wrap64_in (by omega)
      by_cases hlt : k < 7
      · have hk7 : (k : Int) < 7 := by omega
        obtain ⟨x, hx⟩ : ∃ x, L[k]? = some x := ⟨_, List.getElem?_eq_getElem (by omega)⟩
        have c1 := fun (g : Int → SV) f => tab1 (g := g) (f := f) hlt
        have hax := atL_of hx
        have hput := row_put (f := fun i => if i < k then atL L i + 1 else 0) (f' := fun i => if i < k + 1 then atL L i + 1 else 0) hlt (v := x + 1) fun b hb => by
          by_cases h1 : b = k
          · subst h1; simp [hax]
          · by_cases h2 : b < k
            · simp [h1, h2, show b < k + 1 by omega]
            · simp [h1, h2, show ¬ b < k + 1 by omega]
        have w4 : IntKind.i64.wrap (x + 1) = x + 1 := by
          have := fromK_mem hf hx
          exact wrap64_in (by omega)
        have wk1 : IntKind.i64.wrap 1 = 1 := by decide
        rcases k with _ | j
        · repeat (first | (with_reducible first | refine AWi.seqK fun _ => ?_ | refine AWi.blockK fun _ => ?_ | refine KI.go ?_) | ((first | refine AWi.region tabOk ?_ | refine AWi.condK fun _ _ => ?_ | refine AWi.draws tabOk rfl (by kernel_rfl) (by kernel_rfl) ?_); simp [-getElem?_pos, z0, z1, z2, s0, s2, s4, s16, s17, s18, mn, mr, hk7, hx, h7, c1, w4, wk1]) | ((first | refine AWi.ret ?_ | refine AWi.skip ?_ | refine AWi.exit ?_); try simp only [thenP]) | (with_reducible refine BB.go ?_; simp only [blockP, thenP, reduceIte]))
          refine LI.go ⟨1, by omega⟩ ⟨by omega, by simp [s0], by simp [s2], by simp [s4], by simp [s16], by simp [s17], by simp [iD], by simp [mn], ?_, fun j hj => by simp [show ¬ j = n + 1 + 1 by omega, low j hj], rfl⟩ (by simp)
          simp
          exact hput
        · obtain ⟨y, hy⟩ : ∃ y, L[j]? = some y := ⟨_, List.getElem?_eq_getElem (by omega)⟩
          have hay := atL_of hy
          have w2 : IntKind.i64.wrap (j : Int) = (j : Int) := wrap64_in (by omega)
          have w3 : IntKind.i64.wrap ((j : Int) + 1 + 1) = (j : Int) + 1 + 1 := wrap64_in (by omega)
          have hk10 : 0 ≤ (j : Int) + 1 := by omega
          have hk8 : (j : Int) + 1 < 7 := by omega
          have hk9 : j + 1 + 1 ≤ 7 := by omega
          have hd2 := descTo_succ L (j + 1)
          rw [hd, Nat.add_sub_cancel, hax, hay] at hd2
          by_cases hxy : y < x
          · have hB : rowOfB L = false := by
              cases h : rowOfB L with
              | false => rfl
              | true =>
                simp only [rowOfB, Bool.and_eq_true] at h
                have h2 := key (j + 2) (by omega) h.2
                rw [hd2] at h2
                simp at h2
                omega
            have hR : rowOfR L = fun _ => 0 := by rw [rowOfR, hB]; rfl
            repeat (first | (with_reducible first | refine AWi.seqK fun _ => ?_ | refine AWi.blockK fun _ => ?_ | refine KI.go ?_) | ((first | refine AWi.region tabOk ?_ | refine AWi.condK fun _ _ => ?_ | refine AWi.draws tabOk rfl (by kernel_rfl) (by kernel_rfl) ?_); simp [-getElem?_pos, z0, z1, z2, s0, s2, s4, s16, s17, s18, mn, mr, hk7, hx, h7, c1, hy, w2, w3, w4, hk8, hk9, hk10, hxy]) | ((first | refine AWi.ret ?_ | refine AWi.skip ?_ | refine AWi.exit ?_); try simp only [thenP]) | (with_reducible refine BB.go ?_; simp only [blockP, thenP, reduceIte]))
            refine RI.ret (xs := [.agg (rowS fun _ => 0), .d (bD false)]) (by simp [Try.results76, resSlots, resSlot, bD, s2]; rfl) ?_
            exact ⟨fun j hj => by simp [show ¬ j = n by omega, low j hj], by rw [hB, hR]; rfl⟩
          · repeat (first | (with_reducible first | refine AWi.seqK fun _ => ?_ | refine AWi.blockK fun _ => ?_ | refine KI.go ?_) | ((first | refine AWi.region tabOk ?_ | refine AWi.condK fun _ _ => ?_ | refine AWi.draws tabOk rfl (by kernel_rfl) (by kernel_rfl) ?_); simp [-getElem?_pos, z0, z1, z2, s0, s2, s4, s16, s17, s18, mn, mr, hk7, hx, h7, c1, hy, w2, w3, w4, hk8, hk9, hk10, hxy]) | ((first | refine AWi.ret ?_ | refine AWi.skip ?_ | refine AWi.exit ?_); try simp only [thenP]) | (with_reducible refine BB.go ?_; simp only [blockP, thenP, reduceIte]))
            refine LI.go ⟨j + 1 + 1, by omega⟩ ⟨by omega, by simp [s0], by simp [s2], by simp [s4], by simp [s16], by simp [s17], by simp [iD], by simp [mn], ?_, fun j hj => by simp [show ¬ j = n + 1 + 1 by omega, low j hj], ?_⟩ (by simp; omega)
            · simp
              exact hput
            · rw [hd2]
              simp
              omega
      · obtain rfl : k = 7 := by omega
        have hB : rowOfB L = true := by simp [rowOfB, hf, h7, hd]
        have hR : rowOfR L = fun i => atL L i + 1 := by rw [rowOfR, hB]; rfl
        have hend : (rowS fun i => if i < 7 then atL L i + 1 else 0) = rowS fun i => atL L i + 1 := by
          simp only [rowS]
          rw [tab_ext fun i hi => if_pos hi]
        rw [hend] at mr
        repeat (first | (with_reducible first | refine AWi.seqK fun _ => ?_ | refine AWi.blockK fun _ => ?_ | refine KI.go ?_) | ((first | refine AWi.region tabOk ?_ | refine AWi.condK fun _ _ => ?_ | refine AWi.draws tabOk rfl (by kernel_rfl) (by kernel_rfl) ?_); simp [-getElem?_pos, z0, z1, z2, s0, s2, s4, s16, s17, s18, mn, mr]) | ((first | refine AWi.ret ?_ | refine AWi.skip ?_ | refine AWi.exit ?_); try simp only [thenP]) | (with_reducible refine BB.go ?_; simp only [blockP, thenP, reduceIte]))
        refine RI.ret (xs := [.agg (rowS fun i => atL L i + 1), .d (bD true)]) (by simp [Try.results76, resSlots, resSlot, bD, s2]) ?_
        exact ⟨fun j hj => by simp [show ¬ j = n by omega, low j hj], by rw [hB, hR]; rfl⟩
  · have hB : rowOfB L = false := by simp [rowOfB, h7]
    have hR : rowOfR L = fun _ => 0 := by rw [rowOfR, hB]; rfl
    have h7i : ¬ (L.length : Int) = 7 := by omega
    refine cwpK tabOk Try.func76 rfl rfl (show 1 ≤ _ by decide) rfl fun _ => ?_; simp only [Try.ntmps76]
    repeat (first | (with_reducible first | refine AWi.seqK fun _ => ?_ | refine AWi.blockK fun _ => ?_ | refine KI.go ?_) | ((first | refine AWi.region tabOk ?_ | refine AWi.condK fun _ _ => ?_ | refine AWi.draws tabOk rfl (by kernel_rfl) (by kernel_rfl) ?_); simp [-getElem?_pos, z0, z1, z2, h7i]) | ((first | refine AWi.ret ?_ | refine AWi.skip ?_ | refine AWi.exit ?_); try simp only [thenP]) | (with_reducible refine BB.go ?_; simp only [blockP, thenP, reduceIte]))
    refine RI.ret (xs := [.agg (rowS fun _ => 0), .d (bD false)]) (by simp [Try.results76, resSlots, resSlot, bD]; rfl) ?_
    refine ⟨fun j hj => ?_, by rw [hB, hR]; rfl⟩
    simp [show ¬ j = n by omega, show ¬ j = n + 1 + 1 by omega]
theorem rowOf_c (L : List Int) (hl : L.length ≤ 1000000) : ACall Try.prog 76 [intL L] (.tup [rowD (rowOfR L), bD (rowOfB L)]) :=
  ACall.ofR (RCall.of3 (n0 := 0) fun n _ => (rowOf_x L hl n _).mono fun _ _ _ h => ⟨h.2, h.1⟩)
end Go.Proofs.Ytcmkkgdjhjpldaa.Eng

namespace Go.Proofs.Ytcmkkgdjhjpldaa.Eng
open Go.RowKit
def proveB (l : List HS) (e : HE) : (Nat → Int) → List (Nat → Int) → Bool
  | _, [] => true
  | f, r :: rs => if inR f r = false ∨ hasE e r = true then false else proveB l e (leadR l r) rs
set_option maxRecDepth 100000 in
set_option maxHeartbeats 8000000 in
theorem prove_w (l : List HS) (hl : l.all okS = true) (hn6 : l.length ≤ 6) (g : HE) (gg : GoodE g) (e : HE) (ge : GoodE e) (rs : List (Nat → Int)) (hrs : ∀ r ∈ rs, rowOk r) (hlen : rs.length ≤ 1000000) (kg n id : Nat) (m : Mem) (hk : kg < n) (hg : GoalAt g kg m) (hid : id < n) {z : Bool} (hm : m id = some (.row 83 7 (rowsD rs) z)) :
    CWp Try.prog 62 [.agg [.d (boxD l)], .agg [.d (iD e.depth), .d (iD e.burr)], reachF kg, .own id rs.length 7] n m fun y _ m' => (∀ j, j < n → m' j = m j) ∧ y = .d (bD (proveB l e (firstR g) rs)) := by
  have hkg : kg < n + 1 + 1 + 1 + 1 := by omega
  refine cwpK tabOk Try.func62 rfl rfl (show 4 ≤ _ by decide) rfl fun _ => ?_; simp only [Try.ntmps62]
  repeat (first | (with_reducible first | refine AWi.seqK fun _ => ?_ | refine AWi.blockK fun _ => ?_ | refine KI.go ?_) | ((first | refine AWi.region tabOk ?_ | refine AWi.condK fun _ _ => ?_); simp [-getElem?_pos, z0, z1, z2, z0]) | ((first | refine AWi.ret ?_ | refine AWi.skip ?_ | refine AWi.exit ?_); try simp only [thenP]) | (with_reducible refine BB.go ?_; simp only [blockP, thenP, reduceIte]))
  refine ExecI.callC (firstRow_w g gg kg _ _ hkg (by obtain ⟨zg, hz⟩ := hg; exact ⟨zg, by simp [show ¬ kg = n by omega, show ¬ kg = n + 1 by omega, hz]⟩)) rfl (by simp [calleeS, evList]) ?_
  rintro y n1 m1 ⟨hn1, hm1, rfl⟩
  simp [-getElem?_pos, z0, z1, z2]
  repeat (first | (with_reducible first | refine AWi.seqK fun _ => ?_ | refine AWi.blockK fun _ => ?_ | refine KI.go ?_) | ((first | refine AWi.region tabOk ?_ | refine AWi.condK fun _ _ => ?_); simp [-getElem?_pos, z0, z1, z2, z0]) | ((first | refine AWi.ret ?_ | refine AWi.skip ?_ | refine AWi.exit ?_); try simp only [thenP]) | (with_reducible refine BB.go ?_; simp only [blockP, thenP, reduceIte]))
  have hrl : (rowsD rs).length = rs.length := by simp [rowsD]
  have m1n : m1 n = some (.box 65 [.d (boxD l)] false) := (hm1 n (by omega)).trans (by simp)
  have m1e : m1 (n + 1) = some (.box 24 [.d (iD e.depth), .d (iD e.burr)] false) := (hm1 (n + 1) (by omega)).trans (by simp)
  have m1l : ∀ j, j < n → m1 j = m j := fun j hj => (hm1 j (by omega)).trans (by simp [show ¬ j = n by omega, show ¬ j = n + 1 by omega])
  refine AWi.loopK (ι := Nat × (Nat → Int)) (fun p n2 s => n1 + 1 ≤ n2 ∧ s.slots 4 = .ptr n 0 0 ∧ s.slots 5 = .ptr (n + 1) 0 0 ∧ s.slots 9 = .ptr n1 0 0 ∧ s.slots 14 = .own id rs.length 7 ∧ s.slots 15 = .d (iD rs.length) ∧ s.slots 16 = .d (iD p.1) ∧ s.mem n = some (.box 65 [.d (boxD l)] false) ∧ s.mem (n + 1) = some (.box 24 [.d (iD e.depth), .d (iD e.burr)] false) ∧ s.mem n1 = some (.box 83 (rowS p.2) false) ∧ (∀ j, j < n → s.mem j = m j) ∧ p.1 ≤ rs.length ∧ proveB l e p.2 (rs.drop p.1) = proveB l e (firstR g) rs) (fun p => rs.length - p.1) (0, firstR g) ?_ ?_
  · exact ⟨by omega, by simp, by simp, by simp, by simp, by simp [iD, hrl], by simp [iD], by simp [show ¬ n = n1 by omega, m1n], by simp [show ¬ n + 1 = n1 by omega, m1e], by simp, fun j hj => by simp [show ¬ j = n1 by omega, m1l j hj], by simp, by simp⟩
  rintro ⟨k, f⟩ n2 s ⟨hle, s4, s5, s9, s14, s15, s16, mn, me, mf, low, hkl, hpr⟩ kk
  simp only at s16 mf hkl hpr
  have mi := (low id hid).trans hm
  have w1 : IntKind.i64.wrap ((k : Int) + 1) = (k : Int) + 1 := wrap64_in (by omega)
  by_cases hlt : k < rs.length
  · have hki : (k : Int) < (rs.length : Int) := by omega
    obtain ⟨q, hq⟩ : ∃ q, rs[k]? = some q := ⟨_, List.getElem?_eq_getElem hlt⟩
    have hrow : (rowsD rs)[k]? = some ((tab q).map iD) := by rw [rowsD, List.getElem?_map, hq]; rfl
    have hqo := hrs q (List.mem_of_getElem? hq)
    have hdrop : rs.drop k = q :: rs.drop (k + 1) := by
      rw [List.drop_eq_getElem_cons hlt]
      congr 1
      exact (List.getElem?_eq_some_iff.1 hq).2
    rw [hdrop] at hpr
    have ci := isIn_c f q
    have ch := has_c q e ge
    have e1 : ¬ n1 = n2 + 3 := by omega
    have e2 : ¬ n = n2 + 3 := by omega
    repeat (first | (with_reducible first | refine AWi.seqK fun _ => ?_ | refine AWi.blockK fun _ => ?_ | refine KI.go ?_) | ((first | refine AWi.region tabOk ?_ | refine AWi.condK fun _ _ => ?_); simp [-getElem?_pos, z0, z1, z2, s4, s5, s9, s14, s15, s16, mn, me, mf, mi, hki, hrow, hrl, e1, e2]) | ((first | refine AWi.ret ?_ | refine AWi.skip ?_ | refine AWi.exit ?_); try simp only [thenP]) | (with_reducible refine BB.go ?_; simp only [blockP, thenP, reduceIte]))
    have e3 : ¬ n + 1 = n2 + 3 := by omega
    have e4 : ¬ n = n2 + 2 := by omega
    have e5 : ¬ n + 1 = n2 + 1 + 1 + 1 := by omega
    have e6 : ¬ n1 = n2 + 1 + 1 + 1 := by omega
    have e7 : ¬ n = n2 + 1 + 1 + 1 := by omega
    rcases hb : inR f q
    · rw [hb] at ci
      have hp0 : proveB l e (firstR g) rs = false := by rw [← hpr, proveB, if_pos (.inl hb)]
      refine ExecI.call [] ci ?_ rfl ?_ ?_; (focus simp [-getElem?_pos, mf, me, mn, s4, s5, s9, e1, e2, e3, e4, e5, e6, e7]); (focus simp [-getElem?_pos, z0, z1, z2, mf, me, mn, s4, s5, s9, e1, e2, e3, e4, e5, e6, e7]); simp [-getElem?_pos, z0, z1, z2, mf, me, mn, s4, s5, s9, e1, e2, e3, e4, e5, e6, e7]
      repeat (first | (with_reducible first | refine AWi.seqK fun _ => ?_ | refine AWi.blockK fun _ => ?_ | refine KI.go ?_) | ((first | refine AWi.region tabOk ?_ | refine AWi.condK fun _ _ => ?_); simp [-getElem?_pos, z0, z1, z2, s4, s5, s9, mn, me, mf, e1, e2, e3, e4]) | ((first | refine AWi.ret ?_ | refine AWi.skip ?_ | refine AWi.exit ?_); try simp only [thenP]) | (with_reducible refine BB.go ?_; simp only [blockP, thenP, reduceIte]))
      exact RI.ret rfl ⟨fun j hj => by simp [show ¬ j = n2 + 1 + 1 + 1 by omega, low j hj], by rw [hp0]; rfl⟩
    · rw [hb] at ci
      have hd1 : decide (e.depth < q e.burr.toNat) = hasE e q := rfl
      rw [hd1] at ch
      rcases hc : hasE e q
      · rw [hc] at ch
        refine ExecI.call [] ci ?_ rfl ?_ ?_; (focus simp [-getElem?_pos, mf, me, mn, s4, s5, s9, e1, e2, e3, e4, e5, e6, e7]); (focus simp [-getElem?_pos, z0, z1, z2, mf, me, mn, s4, s5, s9, e1, e2, e3, e4, e5, e6, e7]); simp [-getElem?_pos, z0, z1, z2, mf, me, mn, s4, s5, s9, e1, e2, e3, e4, e5, e6, e7]
        repeat (first | (with_reducible first | refine AWi.seqK fun _ => ?_ | refine AWi.blockK fun _ => ?_ | refine KI.go ?_) | ((first | refine AWi.region tabOk ?_ | refine AWi.condK fun _ _ => ?_); simp [-getElem?_pos, z0, z1, z2, s4, s5, s9, mn, me, mf, e1, e2, e3, e4]) | ((first | refine AWi.ret ?_ | refine AWi.skip ?_ | refine AWi.exit ?_); try simp only [thenP]) | (with_reducible refine BB.go ?_; simp only [blockP, thenP, reduceIte]))
        refine ExecI.call [] ch ?_ rfl ?_ ?_; (focus simp [-getElem?_pos, mf, me, e1, e2, e3]); (focus simp [-getElem?_pos, z0, z1, z2, mf, me, e1, e2, e3]); simp [-getElem?_pos, z0, z1, z2, mf, me, e1, e2, e3]
        repeat (first | (with_reducible first | refine AWi.seqK fun _ => ?_ | refine AWi.blockK fun _ => ?_ | refine KI.go ?_) | ((first | refine AWi.region tabOk ?_ | refine AWi.condK fun _ _ => ?_); simp [-getElem?_pos, z0, z1, z2, s4, s5, s9, mn, me, mf, e1, e2, e3, e4]) | ((first | refine AWi.ret ?_ | refine AWi.skip ?_ | refine AWi.exit ?_); try simp only [thenP]) | (with_reducible refine BB.go ?_; simp only [blockP, thenP, reduceIte]))
        refine ExecI.callC (lead_w l hl hn6 q f hqo n1 _ _ (by omega) (by simp [e6, mf])) rfl (by simp [calleeS, evList, s9]) ?_
        rintro y n3 m3 ⟨hn3, hm3, hl3⟩
        have hk3 : ∀ j, j < n2 → j ≠ n1 → m3 j = s.mem j := fun j hj hne => (hm3 j (by omega) hne).trans (by simp [show ¬ j = n2 + 1 + 1 + 1 by omega])
        simp [-getElem?_pos, z0, z1, z2, s16]
        repeat (first | (with_reducible first | refine AWi.seqK fun _ => ?_ | refine AWi.blockK fun _ => ?_ | refine KI.go ?_) | ((first | refine AWi.region tabOk ?_ | refine AWi.condK fun _ _ => ?_); simp [-getElem?_pos, z0, z1, z2, s4, s5, s9, s16, w1]) | ((first | refine AWi.ret ?_ | refine AWi.skip ?_ | refine AWi.exit ?_); try simp only [thenP]) | (with_reducible refine BB.go ?_; simp only [blockP, thenP, reduceIte]))
        refine LI.go (k + 1, leadR l q) ⟨by omega, by simp [s4], by simp [s5], by simp [s9], by simp [s14], by simp [s15], by simp [iD], (hk3 n (by omega) (by omega)).trans mn, (hk3 (n + 1) (by omega) (by omega)).trans me, hl3, fun j hj => (hk3 j (by omega) (by omega)).trans (low j hj), hlt, ?_⟩ (by simp; omega)
        rw [← hpr, proveB, if_neg (by rw [hb, hc]; simp)]
      · rw [hc] at ch
        have hp0 : proveB l e (firstR g) rs = false := by rw [← hpr, proveB, if_pos (.inr hc)]
        refine ExecI.call [] ci ?_ rfl ?_ ?_; (focus simp [-getElem?_pos, mf, me, mn, s4, s5, s9, e1, e2, e3, e4, e5, e6, e7]); (focus simp [-getElem?_pos, z0, z1, z2, mf, me, mn, s4, s5, s9, e1, e2, e3, e4, e5, e6, e7]); simp [-getElem?_pos, z0, z1, z2, mf, me, mn, s4, s5, s9, e1, e2, e3, e4, e5, e6, e7]
        repeat (first | (with_reducible first | refine AWi.seqK fun _ => ?_ | refine AWi.blockK fun _ => ?_ | refine KI.go ?_) | ((first | refine AWi.region tabOk ?_ | refine AWi.condK fun _ _ => ?_); simp [-getElem?_pos, z0, z1, z2, s4, s5, s9, mn, me, mf, e1, e2, e3, e4]) | ((first | refine AWi.ret ?_ | refine AWi.skip ?_ | refine AWi.exit ?_); try simp only [thenP]) | (with_reducible refine BB.go ?_; simp only [blockP, thenP, reduceIte]))
        refine ExecI.call [] ch ?_ rfl ?_ ?_; (focus simp [-getElem?_pos, mf, me, e1, e2, e3]); (focus simp [-getElem?_pos, z0, z1, z2, mf, me, e1, e2, e3]); simp [-getElem?_pos, z0, z1, z2, mf, me, e1, e2, e3]
        repeat (first | (with_reducible first | refine AWi.seqK fun _ => ?_ | refine AWi.blockK fun _ => ?_ | refine KI.go ?_) | ((first | refine AWi.region tabOk ?_ | refine AWi.condK fun _ _ => ?_); simp [-getElem?_pos, z0, z1, z2, s4, s5, s9, mn, me, mf, e1, e2, e3, e4]) | ((first | refine AWi.ret ?_ | refine AWi.skip ?_ | refine AWi.exit ?_); try simp only [thenP]) | (with_reducible refine BB.go ?_; simp only [blockP, thenP, reduceIte]))
        exact RI.ret rfl ⟨fun j hj => by simp [show ¬ j = n2 + 1 + 1 + 1 by omega, low j hj], by rw [hp0]; rfl⟩
  · obtain rfl : k = rs.length := by omega
    rw [List.drop_length] at hpr
    repeat (first | (with_reducible first | refine AWi.seqK fun _ => ?_ | refine AWi.blockK fun _ => ?_ | refine KI.go ?_) | ((first | refine AWi.region tabOk ?_ | refine AWi.condK fun _ _ => ?_); simp [-getElem?_pos, z0, z1, z2, s4, s5, s9, s14, s15, s16, mn, me, mf]) | ((first | refine AWi.ret ?_ | refine AWi.skip ?_ | refine AWi.exit ?_); try simp only [thenP]) | (with_reducible refine BB.go ?_; simp only [blockP, thenP, reduceIte]))
    exact RI.ret rfl ⟨low, by rw [← hpr]; rfl⟩
end Go.Proofs.Ytcmkkgdjhjpldaa.Eng

namespace Go.Proofs.Ytcmkkgdjhjpldaa.Eng
open Go.RowKit
def listsD (Ls : List (List Int)) : List (List Dat) := Ls.map fun L => [intL L]
def readK (Ls : List (List Int)) (k : Nat) : List (List Dat) := (List.range Ls.length).map fun i => (tab (if i < k then rowOfR (Ls.getD i []) else fun _ => 0)).map iD
theorem readK_len (Ls : List (List Int)) (k : Nat) : (readK Ls k).length = Ls.length := by simp [readK]
theorem readK_set {Ls : List (List Int)} {k : Nat} {L : List Int} (h : Ls[k]? = some L) : (readK Ls k).set k ((tab (rowOfR L)).map iD) = readK Ls (k + 1) := by
  have hk := (List.getElem?_eq_some_iff.1 h).1
  apply List.ext_getElem?
  intro i
  rw [List.getElem?_set]
  by_cases hi : i < Ls.length
  · by_cases e : k = i
    · subst e
      have h2 := (List.getElem?_eq_some_iff.1 h).2
      simp [readK, hi, List.getD_eq_getElem?_getD, h2]
    · rw [if_neg e]
      simp only [readK, List.getElem?_map, List.getElem?_range hi, Option.map_some]
      by_cases h2 : i < k
      · simp [h2, show i < k + 1 by omega]
      · simp [h2, show ¬ i < k + 1 by omega]
  · rw [if_neg (by omega)]
    simp [readK, hi]
theorem readK_end (Ls : List (List Int)) : readK Ls Ls.length = rowsD (Ls.map rowOfR) := by
  apply List.ext_getElem?
  intro i
  by_cases hi : i < Ls.length
  · simp [readK, rowsD, hi, List.getD_eq_getElem?_getD]
  · simp [readK, rowsD, hi]
set_option maxRecDepth 100000 in
set_option maxHeartbeats 8000000 in
theorem rowsOf_w (Ls : List (List Int)) (hL : ∀ L ∈ Ls, L.length ≤ 1000000) (hl : Ls.length ≤ 800) (n : Nat) (m : Mem) :
    CWp Try.prog 61 [.d (.list (listsD Ls))] n m fun y n' m' => (∀ j, j < n → m' j = m j) ∧ if Ls.all rowOfB then ∃ id, n ≤ id ∧ id < n' ∧ y = .tup [.own id Ls.length 7, .d (bD true)] ∧ m' id = some (.row 83 7 (rowsD (Ls.map rowOfR)) false) else y = .tup [.nilS, .d (bD false)] := by
  have b1 : 56 * (Ls.length : Int) ≤ 140737488355328 := by omega
  have b2 : (Ls.length : Int) ≤ 9223372036854775807 := by omega
  have hll : (listsD Ls).length = Ls.length := by simp [listsD]
  refine cwpK tabOk Try.func61 rfl rfl (show 1 ≤ _ by decide) rfl fun _ => ?_; simp only [Try.ntmps61]
  repeat (first | (with_reducible first | refine AWi.seqK fun _ => ?_ | refine AWi.blockK fun _ => ?_ | refine KI.go ?_) | ((first | refine AWi.region tabOk ?_ | refine AWi.condK fun _ _ => ?_); simp [-getElem?_pos, z0, z1, z2, b1, b2, hll]) | ((first | refine AWi.ret ?_ | refine AWi.skip ?_ | refine AWi.exit ?_); try simp only [thenP]) | (with_reducible refine BB.go ?_; simp only [blockP, thenP, reduceIte]))
  refine AWi.loopK (fun (k : Nat) n1 s => n + 1 + 1 + 1 + 1 + 1 ≤ n1 ∧ s.slots 0 = .d (.list (listsD Ls)) ∧ s.slots 4 = .own (n + 1 + 1 + 1 + 1) Ls.length 7 ∧ s.slots 12 = .d (.list (listsD Ls)) ∧ s.slots 13 = .d (iD Ls.length) ∧ s.slots 14 = .d (iD k) ∧ s.mem (n + 1 + 1 + 1 + 1) = some (.row 83 7 (readK Ls k) false) ∧ (∀ j, j < n → s.mem j = m j) ∧ k ≤ Ls.length ∧ (Ls.take k).all rowOfB = true) (fun k => Ls.length - k) 0 ?_ ?_
  · refine ⟨by omega, by simp, by simp, by simp, by simp [iD], by simp [iD], ?_, fun j hj => by simp [show ¬ j = n + 1 + 1 + 1 + 1 by omega], by omega, by simp⟩
    simp
    have : readK Ls 0 = List.replicate Ls.length ((tab fun _ => 0).map iD) := by
      apply List.ext_getElem?
      intro i
      by_cases hi : i < Ls.length
      · simp [readK, hi]
      · simp [readK, hi]
    rw [this]; rfl
  rintro k n1 s ⟨hle, s0, s4, s12, s13, s14, mr, low, hkl, hall⟩ kk
  have w1 : IntKind.i64.wrap ((k : Int) + 1) = (k : Int) + 1 := wrap64_in (by omega)
  by_cases hlt : k < Ls.length
  · have hki : (k : Int) < (Ls.length : Int) := by omega
    obtain ⟨L, hq⟩ : ∃ L, Ls[k]? = some L := ⟨_, List.getElem?_eq_getElem hlt⟩
    have hrow : (listsD Ls)[k]? = some [intL L] := by rw [listsD, List.getElem?_map, hq]; rfl
    have hrk : (readK Ls k).length = Ls.length := readK_len Ls k
    have cr := rowOf_c L (hL L (List.mem_of_getElem? hq))
    have htk : (Ls.take (k + 1)).all rowOfB = rowOfB L := by rw [allK_take hq, hall, Bool.true_and]
    have hset := readK_set hq
    have hz : (readK Ls k)[k]? = some ((tab fun _ => 0).map iD) := by simp [readK, hlt]
    repeat (first | (with_reducible first | refine AWi.seqK fun _ => ?_ | refine AWi.blockK fun _ => ?_ | refine KI.go ?_) | ((first | refine AWi.region tabOk ?_ | refine AWi.condK fun _ _ => ?_); simp [-getElem?_pos, z0, z1, z2, s0, s4, s12, s13, s14, mr, hki, hrow, hll]) | ((first | refine AWi.ret ?_ | refine AWi.skip ?_ | refine AWi.exit ?_); try simp only [thenP]) | (with_reducible refine BB.go ?_; simp only [blockP, thenP, reduceIte]))
    rcases hB : rowOfB L <;> rw [hB] at cr htk
    · have hno : Ls.all rowOfB = false := allK_not hq hB
      refine ExecI.call [] cr ?_ rfl ?_ ?_; (focus simp [-getElem?_pos, s0, s4]); (focus simp [-getElem?_pos, z0, z1, z2, s0, s4]); simp [-getElem?_pos, z0, z1, z2, s0, s4]
      repeat (first | (with_reducible first | refine AWi.seqK fun _ => ?_ | refine AWi.blockK fun _ => ?_ | refine KI.go ?_) | ((first | refine AWi.region tabOk ?_ | refine AWi.condK fun _ _ => ?_); simp [-getElem?_pos, z0, z1, z2, s0, s4]) | ((first | refine AWi.ret ?_ | refine AWi.skip ?_ | refine AWi.exit ?_); try simp only [thenP]) | (with_reducible refine BB.go ?_; simp only [blockP, thenP, reduceIte]))
      exact RI.ret rfl ⟨fun j hj => by simp [show ¬ j = n1 + 1 + 1 + 1 + 1 + 1 + 1 + 1 + 1 + 1 + 1 + 1 by omega, low j hj], by rw [if_neg (by rw [hno]; simp)]; rfl⟩
    · refine ExecI.call [] cr ?_ rfl ?_ ?_; (focus simp [-getElem?_pos, s0, s4]); (focus simp [-getElem?_pos, z0, z1, z2, s0, s4]); simp [-getElem?_pos, z0, z1, z2, s0, s4]
      repeat (first | (with_reducible first | refine AWi.seqK fun _ => ?_ | refine AWi.blockK fun _ => ?_ | refine KI.go ?_) | ((first | refine AWi.region tabOk ?_ | refine AWi.condK fun _ _ => ?_); simp [-getElem?_pos, z0, z1, z2, s0, s4, s14, mr, hrk, hki, w1, hset, hz, show ¬ n = n1 + 7 by omega, show ¬ n + 1 + 1 + 1 + 1 = n1 by omega]) | ((first | refine AWi.ret ?_ | refine AWi.skip ?_ | refine AWi.exit ?_); try simp only [thenP]) | (with_reducible refine BB.go ?_; simp only [blockP, thenP, reduceIte]))
      refine LI.go (k + 1) ⟨by omega, by simp [s0], by simp [s4], by simp [s12], by simp [s13], by simp [iD], by simp, fun j hj => by simp [show ¬ j = n + 1 + 1 + 1 + 1 by omega, show ¬ j = n1 + 1 + 1 + 1 + 1 + 1 + 1 + 1 + 1 + 1 + 1 + 1 by omega, low j hj], hlt, htk⟩ (by omega)
  · obtain rfl : k = Ls.length := by omega
    rw [List.take_length] at hall
    rw [readK_end] at mr
    repeat (first | (with_reducible first | refine AWi.seqK fun _ => ?_ | refine AWi.blockK fun _ => ?_ | refine KI.go ?_) | ((first | refine AWi.region tabOk ?_ | refine AWi.condK fun _ _ => ?_); simp [-getElem?_pos, z0, z1, z2, s0, s4, s12, s13, s14, mr]) | ((first | refine AWi.ret ?_ | refine AWi.skip ?_ | refine AWi.exit ?_); try simp only [thenP]) | (with_reducible refine BB.go ?_; simp only [blockP, thenP, reduceIte]))
    exact RI.ret rfl ⟨low, by rw [if_pos hall]; exact ⟨n + 1 + 1 + 1 + 1, by omega, by omega, by simp [retV, s4], mr⟩⟩
end Go.Proofs.Ytcmkkgdjhjpldaa.Eng

namespace Go.Proofs.Ytcmkkgdjhjpldaa.Eng
open Go.RowKit
def chkRows (l : List HS) (e g : HE) (Ls : List (List Int)) : Int := if chkErr l [e, g] = 0 then (if 800 < Ls.length then 6 else if Ls.all rowOfB then (if proveB l e (firstR g) (Ls.map rowOfR) then 0 else 14) else 3) else chkErr l [e, g]
theorem rowOfR_ok (L : List Int) : rowOk (rowOfR L) := fun i hi => by
  unfold rowOfR
  split
  · rename_i h
    simp only [rowOfB, Bool.and_eq_true, decide_eq_true_eq] at h
    have hx : L[i]? = some L[i] := List.getElem?_eq_getElem (by omega)
    have := fromK_mem h.1.2 hx
    show 0 ≤ atL L i + 1 ∧ atL L i + 1 ≤ 101
    rw [atL_of hx]
    omega
  · show (0 : Int) ≤ 0 ∧ (0 : Int) ≤ 101
    omega
set_option maxRecDepth 100000 in
set_option maxHeartbeats 8000000 in
theorem checkRows_x (l : List HS) (e g : HE) (Ls : List (List Int)) (hL : ∀ L ∈ Ls, L.length ≤ 1000000) (n : Nat) (m : Mem) :
    CWp Try.prog 28 [.d (boxD l), .d (edgD e), .d (edgD g), .d (.list (listsD Ls))] n m fun y _ m' => (∀ j, j < n → m' j = m j) ∧ y = .d (iD (chkRows l e g Ls)) := by
  have cb : ACall Try.prog 49 [boxD l, .list [[iD e.depth, iD e.burr], [iD g.depth, iD g.burr]]] (.tup [.agg [boxD (chkB l [e, g])], iD (chkErr l [e, g])]) := check_c l [e, g] (by simp)
  have hll : (listsD Ls).length = Ls.length := by simp [listsD]
  by_cases h0 : chkErr l [e, g] = 0
  · obtain ⟨hb, hes⟩ := chkOk h0
    have ge := goodE (e := e) (by simp at hes; exact hes.1)
    have gg := goodE (e := g) (by simp at hes; exact hes.2)
    have hcb : chkB l [e, g] = l := if_pos h0
    rw [h0, hcb] at cb
    have o1 : ¬ n = n + 1 := by omega
    have o2 : ¬ n + 1 = n := by omega
    have o3 : ¬ n = n + 1 + 1 + 1 + 1 + 1 + 1 := by omega
    refine cwpK tabOk Try.func28 rfl rfl (show 4 ≤ _ by decide) rfl fun _ => ?_; simp only [Try.ntmps28]
    repeat (first | (with_reducible first | refine AWi.seqK fun _ => ?_ | refine AWi.blockK fun _ => ?_ | refine KI.go ?_) | ((first | refine AWi.region tabOk ?_ | refine AWi.condK fun _ _ => ?_); simp [-getElem?_pos, z0, z1, z2, z0]) | ((first | refine AWi.ret ?_ | refine AWi.skip ?_ | refine AWi.exit ?_); try simp only [thenP]) | (with_reducible refine BB.go ?_; simp only [blockP, thenP, reduceIte]))
    refine ExecI.call [n + 1 + 1 + 1 + 1 + 1 + 1] cb ?_ rfl ?_ ?_; (focus simp [-getElem?_pos, ]); (focus simp [-getElem?_pos, z0, z1, z2, ]); simp [-getElem?_pos, z0, z1, z2, ]
    by_cases h8 : 800 < Ls.length
    · have hE : chkRows l e g Ls = 6 := by rw [chkRows, if_pos h0, if_pos h8]
      have h8i : (800 : Int) < (Ls.length : Int) := by omega
      repeat (first | (with_reducible first | refine AWi.seqK fun _ => ?_ | refine AWi.blockK fun _ => ?_ | refine KI.go ?_) | ((first | refine AWi.region tabOk ?_ | refine AWi.condK fun _ _ => ?_); simp [-getElem?_pos, z0, z1, z2, hll, h8i]) | ((first | refine AWi.ret ?_ | refine AWi.skip ?_ | refine AWi.exit ?_); try simp only [thenP]) | (with_reducible refine BB.go ?_; simp only [blockP, thenP, reduceIte]))
      exact RI.ret rfl ⟨fun j hj => by (try dsimp only); repeat (first | rw [setMem_lt (by omega)] | rw [putN_lt (by omega)]), by rw [hE]; rfl⟩
    · have h8i : ¬ (800 : Int) < (Ls.length : Int) := by omega
      repeat (first | (with_reducible first | refine AWi.seqK fun _ => ?_ | refine AWi.blockK fun _ => ?_ | refine KI.go ?_) | ((first | refine AWi.region tabOk ?_ | refine AWi.condK fun _ _ => ?_); simp [-getElem?_pos, z0, z1, z2, hll, h8i]) | ((first | refine AWi.ret ?_ | refine AWi.skip ?_ | refine AWi.exit ?_); try simp only [thenP]) | (with_reducible refine BB.go ?_; simp only [blockP, thenP, reduceIte]))
      refine ExecI.callC (rowsOf_w Ls hL (by omega) _ _) rfl (by simp [calleeS, evList]) ?_
      rintro y n1 m1 ⟨hm1, hy⟩
      rcases hB : Ls.all rowOfB
      · rw [hB] at hy
        have hE : chkRows l e g Ls = 3 := by rw [chkRows, if_pos h0, if_neg h8, hB]; rfl
        obtain rfl : y = .tup [.nilS, .d (bD false)] := by simpa using hy
        simp [-getElem?_pos, z0, z1, z2]
        repeat (first | (with_reducible first | refine AWi.seqK fun _ => ?_ | refine AWi.blockK fun _ => ?_ | refine KI.go ?_) | ((first | refine AWi.region tabOk ?_ | refine AWi.condK fun _ _ => ?_); simp [-getElem?_pos, z0, z1, z2, z0]) | ((first | refine AWi.ret ?_ | refine AWi.skip ?_ | refine AWi.exit ?_); try simp only [thenP]) | (with_reducible refine BB.go ?_; simp only [blockP, thenP, reduceIte]))
        exact RI.ret rfl ⟨fun j hj => (hm1 j (by omega)).trans (by (try dsimp only); repeat (first | rw [setMem_lt (by omega)] | rw [putN_lt (by omega)])), by rw [hE]; rfl⟩
      · rw [hB] at hy
        simp only [if_true] at hy
        obtain ⟨id, i1, i2, rfl, i3⟩ := hy
        simp [-getElem?_pos, z0, z1, z2]
        repeat (first | (with_reducible first | refine AWi.seqK fun _ => ?_ | refine AWi.blockK fun _ => ?_ | refine KI.go ?_) | ((first | refine AWi.region tabOk ?_ | refine AWi.condK fun _ _ => ?_); simp [-getElem?_pos, z0, z1, z2, z0]) | ((first | refine AWi.ret ?_ | refine AWi.skip ?_ | refine AWi.exit ?_); try simp only [thenP]) | (with_reducible refine BB.go ?_; simp only [blockP, thenP, reduceIte]))
        have hlow : ∀ j, j < n → m1 j = m j := fun j hj => (hm1 j (by omega)).trans (by (try dsimp only); repeat (first | rw [setMem_lt (by omega)] | rw [putN_lt (by omega)]))
        have me : m1 n = some (.box 24 [.d (iD e.depth), .d (iD e.burr)] false) := (hm1 n (by omega)).trans (by simp [show ¬ n = n + 1 + 1 + 1 + 1 + 1 + 1 by omega])
        have mg : m1 (n + 1) = some (.box 24 [.d (iD g.depth), .d (iD g.burr)] false) := (hm1 (n + 1) (by omega)).trans (by simp)
        have mb : m1 (n + 1 + 1 + 1 + 1 + 1 + 1 + 1 + 1 + 1 + 1 + 1) = some (.box 65 [.d (boxD l)] false) := (hm1 (n + 1 + 1 + 1 + 1 + 1 + 1 + 1 + 1 + 1 + 1 + 1) (by omega)).trans (by simp)
        have q1 : n < n1 + 1 + 1 + 1 + 1 + 1 + 1 + 1 := by omega
        have q2 : n + 1 < n1 + 1 + 1 + 1 + 1 + 1 + 1 + 1 := by omega
        have q3 : n + 1 + 1 + 1 + 1 + 1 + 1 + 1 + 1 + 1 + 1 + 1 < n1 + 1 + 1 + 1 + 1 + 1 + 1 + 1 := by omega
        have hpe : chkRows l e g Ls = if proveB l e (firstR g) (Ls.map rowOfR) then 0 else 14 := by rw [chkRows, if_pos h0, if_neg h8, if_pos hB]
        refine AWi.drawsM mixedH 5 (by kernel_rfl) (by kernel_rfl) (by kernel_rfl) ?_
        simp only [List.take_succ_cons, List.take_zero]
        repeat (with_reducible refine ExecV.auto tabOk ?_; simp [-getElem?_pos, z0, z1, z2, kindV, isPure, me, mg, mb, q1, q2, q3]; try (refine And.intro (OkV_old (by simp; try omega) (by omega) (by simp [AllAcc])) ?_))
        refine ExecV.callP [] (reaches_n g _ _) (by omega) (fun i hi => by cases hi) rfl (by simp [calleeS, evList]) (OkV_old (by simp) (by omega) (by simp [AllAcc])) ?_
        repeat (with_reducible refine ExecV.auto tabOk ?_; simp [-getElem?_pos, z0, z1, z2, kindV, isPure, me, mg, mb, q1, q2, q3]; try (refine And.intro (OkV_old (by simp; try omega) (by omega) (by simp [AllAcc])) ?_))
        have hml : (Ls.map rowOfR).length = Ls.length := by simp
        refine ⟨_, stepI_call (svs := [.agg [.d (boxD l)], .agg [.d (iD e.depth), .d (iD e.burr)], reachF (n1 + 1 + 1 + 1 + 1 + 1 + 1 + 1), .own id (Ls.map rowOfR).length 7]) (by simp [calleeS, evList]) (prove_w l hb.all hb.n2 g gg e ge (Ls.map rowOfR) (fun r hr => by obtain ⟨L, _, rfl⟩ := List.mem_map.1 hr; exact rowOfR_ok L) (by rw [hml]; omega) (n1 + 1 + 1 + 1 + 1 + 1 + 1 + 1) (n1 + 1 + 1 + 1 + 1 + 1 + 1 + 1 + 1 + 1 + 1 + 1) id _ (by omega) ⟨false, by simp⟩ (by omega) (z := false) (by (try dsimp only); repeat (first | rw [setMem_lt (by omega)] | rw [putN_lt (by omega)]); exact i3)), ?_⟩
        rintro n2 s2 ⟨y, m', ⟨hm2, rfl⟩, rfl⟩
        simp only [restO, List.drop_succ_cons, List.drop_zero, List.map_cons, List.map_nil, shiftO]
        repeat (with_reducible refine ExecV.auto tabOk ?_; simp [-getElem?_pos, z0, z1, z2, kindV, isPure, z0]; try (refine And.intro (OkV_old (by simp; try omega) (by omega) (by simp [AllAcc])) ?_))
        unfold ExecV
        simp only [thenP]
        rcases hP : proveB l e (firstR g) (Ls.map rowOfR)
        · repeat (first | (with_reducible first | refine AWi.seqK fun _ => ?_ | refine AWi.blockK fun _ => ?_ | refine KI.go ?_) | ((first | refine AWi.region tabOk ?_ | refine AWi.condK fun _ _ => ?_); simp [-getElem?_pos, z0, z1, z2, z0]) | ((first | refine AWi.ret ?_ | refine AWi.skip ?_ | refine AWi.exit ?_); try simp only [thenP]) | (with_reducible refine BB.go ?_; simp only [blockP, thenP, reduceIte]))
          exact RI.ret rfl ⟨fun j hj => (hm2 j (by omega)).trans (by (try dsimp only); repeat (first | rw [setMem_lt (by omega)] | rw [putN_lt (by omega)]); exact hlow j hj), by rw [hpe, hP]; rfl⟩
        · repeat (first | (with_reducible first | refine AWi.seqK fun _ => ?_ | refine AWi.blockK fun _ => ?_ | refine KI.go ?_) | ((first | refine AWi.region tabOk ?_ | refine AWi.condK fun _ _ => ?_); simp [-getElem?_pos, z0, z1, z2, z0]) | ((first | refine AWi.ret ?_ | refine AWi.skip ?_ | refine AWi.exit ?_); try simp only [thenP]) | (with_reducible refine BB.go ?_; simp only [blockP, thenP, reduceIte]))
          exact RI.ret rfl ⟨fun j hj => (hm2 j (by omega)).trans (by (try dsimp only); repeat (first | rw [setMem_lt (by omega)] | rw [putN_lt (by omega)]); exact hlow j hj), by rw [hpe, hP]; rfl⟩
  · have hE : chkRows l e g Ls = chkErr l [e, g] := if_neg h0
    generalize chkErr l [e, g] = er at *
    generalize chkB l [e, g] = bb at *
    refine cwpK tabOk Try.func28 rfl rfl (show 4 ≤ _ by decide) rfl fun _ => ?_; simp only [Try.ntmps28]
    repeat (first | (with_reducible first | refine AWi.seqK fun _ => ?_ | refine AWi.blockK fun _ => ?_ | refine KI.go ?_) | ((first | refine AWi.region tabOk ?_ | refine AWi.condK fun _ _ => ?_); simp [-getElem?_pos, z0, z1, z2, z0]) | ((first | refine AWi.ret ?_ | refine AWi.skip ?_ | refine AWi.exit ?_); try simp only [thenP]) | (with_reducible refine BB.go ?_; simp only [blockP, thenP, reduceIte]))
    refine ExecI.call [n + 1 + 1 + 1 + 1 + 1 + 1] cb ?_ rfl ?_ ?_; (focus simp [-getElem?_pos, ]); (focus simp [-getElem?_pos, z0, z1, z2, ]); simp [-getElem?_pos, z0, z1, z2, ]
    repeat (first | (with_reducible first | refine AWi.seqK fun _ => ?_ | refine AWi.blockK fun _ => ?_ | refine KI.go ?_) | ((first | refine AWi.region tabOk ?_ | refine AWi.condK fun _ _ => ?_); simp [-getElem?_pos, z0, z1, z2, h0]) | ((first | refine AWi.ret ?_ | refine AWi.skip ?_ | refine AWi.exit ?_); try simp only [thenP]) | (with_reducible refine BB.go ?_; simp only [blockP, thenP, reduceIte]))
    exact RI.ret rfl ⟨fun j hj => by (try dsimp only); repeat (first | rw [setMem_lt (by omega)] | rw [putN_lt (by omega)]), by rw [hE]; rfl⟩
theorem checkRows_c (l : List HS) (e g : HE) (Ls : List (List Int)) (hL : ∀ L ∈ Ls, L.length ≤ 1000000) : ACall Try.prog 28 [boxD l, edgD e, edgD g, .list (listsD Ls)] (iD (chkRows l e g Ls)) :=
  ACall.ofR (RCall.of (n0 := 0) fun n _ => (checkRows_x l e g Ls hL n _).mono fun _ _ _ h => ⟨h.2, h.1⟩)
end Go.Proofs.Ytcmkkgdjhjpldaa.Eng
