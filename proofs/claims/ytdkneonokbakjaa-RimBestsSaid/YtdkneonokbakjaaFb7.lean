/-
  A part of the texts that the claim builds on: see the last one.
-/
import Derived.Test.YtdkneonokbakjaaFb6
import Derived.Test.YtdkneonokbakjaaRows
import Derived.ProofKit
import Derived.OpenShut
import Derived.Below
import Derived.ChangeSame
set_option linter.unusedSimpArgs false
set_option linter.unusedVariables false
noncomputable section
namespace Go.Proofs.Ytdkneonokbakjaa.Eng
open Go.RowKit
set_option maxRecDepth 100000
set_option maxHeartbeats 8000000
theorem grownL_c (L : List Int) (x : Int) (hl : L.length ≤ 100000) : ACall Try.prog 82 [intL L, iD x] (intL (L ++ [x])) := by
  have b1 : fitsB (L.length + 1) 8 = true := fitsB_small (by omega) (by omega)
  refine acallK tabOk Try.func82 rfl rfl (show 2 ≤ _ by decide) rfl fun _ => ?_; simp only [Try.ntmps82]
  repeat (first | (with_reducible first | refine zq1 fun _ => ?_ | refine zq2 fun _ => ?_ | refine zq3 ?_) | ((first | refine zq4 ?_ | refine zq5 fun _ _ => ?_ | refine zq6 ?_); simp [-getElem?_pos, z0, z1, z2, b1]) | ((first | refine AWp.ret ?_ | refine AWp.skip ?_ | refine AWp.exit ?_); try simp only [thenP]) | (with_reducible refine zq7 ?_; simp only [blockP, thenP, reduceIte]) | with_reducible refine zq8 ?_)
  (first | refine RR.ret ?_ | refine RR.normal ?_); simp [z0]
theorem grownR_c (L : List (Int × Int)) (x : Int × Int) (hl : L.length ≤ 100000) : ACall Try.prog 62 [runsD L, rngD x] (runsD (L ++ [x])) := by
  have b1 : fitsB (L.length + 1) 16 = true := fitsB_small (by omega) (by omega)
  have h2 : (∀ (r : List Dat), r ∈ runRows L → r.length = 2) = True := eq_true fun r hr => by
    obtain ⟨q, -, rfl⟩ := List.mem_map.1 hr
    rfl
  have h3 : runsD (L ++ [x]) = .list (runRows L ++ [[iD x.1, iD x.2]]) := by simp [runRows]
  have htl : List.take L.length (runRows L) = runRows L := List.take_of_length_le (by simp)
  rw [h3]
  refine acallK tabOk Try.func62 rfl rfl (show 2 ≤ _ by decide) rfl fun _ => ?_; simp only [Try.ntmps62]
  repeat (first | (with_reducible first | refine zq1 fun _ => ?_ | refine zq2 fun _ => ?_ | refine zq3 ?_) | ((first | refine zq4 ?_ | refine zq5 fun _ _ => ?_ | refine zq6 ?_); simp [-getElem?_pos, z0, z1, z2, b1, h2, htl]) | ((first | refine AWp.ret ?_ | refine AWp.skip ?_ | refine AWp.exit ?_); try simp only [thenP]) | (with_reducible refine zq7 ?_; simp only [blockP, thenP, reduceIte]) | with_reducible refine zq8 ?_)
  (first | refine RR.ret ?_ | refine RR.normal ?_); simp [h2, htl]
theorem takenL_w (L : List Int) (hl : L.length ≤ 1000000) (n : Nat) (m : Mem) : CWp Try.prog 83 [.d (intL L)] n m fun y _ m' => (∃ id z ty, n ≤ id ∧ y = .own id (iRows L).length z ∧ m' id = some (.row ty z (iRows L) false)) ∧ ∀ j, j < n → m' j = m j := by
  have b1 : 8 * (L.length : Int) ≤ 140737488355328 := by omega
  have b2 : (L.length : Int) ≤ 9223372036854775807 := by omega
  refine cwpK tabOk Try.func83 rfl rfl (show 1 ≤ _ by decide) rfl fun _ => ?_; simp only [Try.ntmps83]
  refine AWi.seqK fun _ => ?_
  refine AWi.region tabOk ?_
  simp [-getElem?_pos, z0, z1, z2]
  with_reducible refine KI.go ?_
  refine AWi.seqK fun _ => ?_
  refine AWi.region tabOk ?_
  simp [-getElem?_pos, z0, z1, z2, b1, b2]
  with_reducible refine KI.go ?_
  refine AWi.seqK fun _ => ?_
  refine AWi.regionS ?_
  refine ExecS.plain tabOk (out := { res := .own (n + 1 + 1 + 1) L.length 1 }) rfl rfl (by simp [-getElem?_pos, z0, z1, z2]) ?_
  refine ExecS.plain tabOk (out := { res := .d (intL L) }) rfl rfl (by simp [-getElem?_pos, z0, z1, z2]) ?_
  refine ExecS.copy1 tabOk (ty := 2) (id := n + 1 + 1 + 1) (k := L.length) (rows := iRows L) (rows0 := List.replicate L.length [.val (.int .i64 0)]) rfl rfl rfl rfl rfl (TB26) rfl (TB2) rfl (by simp [iRows]) (by simp) (by simp [iRows]) (by simp [-getElem?_pos, z0, z1, z2]) (by simp [putS]) (by simp [-getElem?_pos, z0, z1, z2]) ?_
  simp [putS, ExecS]
  with_reducible refine KI.go ?_
  repeat (first | (with_reducible first | refine AWi.seqK fun _ => ?_ | refine AWi.blockK fun _ => ?_ | refine KI.go ?_) | ((first | refine AWi.region tabOk ?_ | refine AWi.condK fun _ _ => ?_ | refine AWi.draws tabOk rfl (by kernel_rfl) (by kernel_rfl) ?_); simp [-getElem?_pos, z0, z1, z2, z0]) | ((first | refine AWi.ret ?_ | refine AWi.skip ?_ | refine AWi.exit ?_); try simp only [thenP]) | (with_reducible refine BB.go ?_; simp only [blockP, thenP, reduceIte]) | (with_reducible refine And.intro (okLog_c (by simp [footOf, guardSlot, slotsOf, idsRead, looks, idsOf, idsOf1, idsWritten, colF]; kernel_rfl)) ?_))
  first
    | exact RI.ret rfl ⟨⟨n + 1 + 1 + 1, 1, 2, by omega, by simp [iRows, retV], by simp⟩, fun j hj => by simp [show ¬ j = n + 1 + 1 + 1 by omega]⟩
    | exact RI.normal rfl ⟨⟨n + 1 + 1 + 1, 1, 2, by omega, by simp [iRows, retV], by simp⟩, fun j hj => by simp [show ¬ j = n + 1 + 1 + 1 by omega]⟩
theorem takenL_c (L : List Int) (hl : L.length ≤ 1000000) : ACall Try.prog 83 [intL L] (intL L) :=
  ACall.ofR (RCall.ofOwn (n0 := 0) fun n _ => takenL_w L hl n _)
theorem takenR_w (L : List (Int × Int)) (hl : L.length ≤ 1000000) (n : Nat) (m : Mem) : CWp Try.prog 63 [.d (runsD L)] n m fun y _ m' => (∃ id z ty, n ≤ id ∧ y = .own id (runRows L).length z ∧ m' id = some (.row ty z (runRows L) false)) ∧ ∀ j, j < n → m' j = m j := by
  have b1 : 16 * (L.length : Int) ≤ 140737488355328 := by omega
  have b2 : (L.length : Int) ≤ 9223372036854775807 := by omega
  refine cwpK tabOk Try.func63 rfl rfl (show 1 ≤ _ by decide) rfl fun _ => ?_; simp only [Try.ntmps63]
  refine AWi.seqK fun _ => ?_
  refine AWi.region tabOk ?_
  simp [-getElem?_pos, z0, z1, z2]
  with_reducible refine KI.go ?_
  refine AWi.seqK fun _ => ?_
  refine AWi.region tabOk ?_
  simp [-getElem?_pos, z0, z1, z2, b1, b2]
  with_reducible refine KI.go ?_
  refine AWi.seqK fun _ => ?_
  refine AWi.regionS ?_
  refine ExecS.plain tabOk (out := { res := .own (n + 1 + 1 + 1) L.length 2 }) rfl rfl (by simp [-getElem?_pos, z0, z1, z2]) ?_
  refine ExecS.plain tabOk (out := { res := .d (runsD L) }) rfl rfl (by simp [-getElem?_pos, z0, z1, z2]) ?_
  refine ExecS.copyZ tabOk (ty := 59) (id := n + 1 + 1 + 1) (k := L.length) (rows := runRows L) (rows0 := List.replicate L.length [.val (.int .i64 0), .val (.int .i64 0)]) rfl rfl rfl rfl rfl (TB36) rfl (TB59) (by decide) rfl (by simp [runRows]) (by simp) (fun q hq => by obtain ⟨z, -, rfl⟩ := List.mem_map.1 hq; rfl) (by simp [-getElem?_pos, z0, z1, z2]) (by simp [putS]) (by simp [-getElem?_pos, z0, z1, z2]) ?_
  simp [putS, ExecS]
  with_reducible refine KI.go ?_
  repeat (first | (with_reducible first | refine AWi.seqK fun _ => ?_ | refine AWi.blockK fun _ => ?_ | refine KI.go ?_) | ((first | refine AWi.region tabOk ?_ | refine AWi.condK fun _ _ => ?_ | refine AWi.draws tabOk rfl (by kernel_rfl) (by kernel_rfl) ?_); simp [-getElem?_pos, z0, z1, z2, z0]) | ((first | refine AWi.ret ?_ | refine AWi.skip ?_ | refine AWi.exit ?_); try simp only [thenP]) | (with_reducible refine BB.go ?_; simp only [blockP, thenP, reduceIte]) | (with_reducible refine And.intro (okLog_c (by simp [footOf, guardSlot, slotsOf, idsRead, looks, idsOf, idsOf1, idsWritten, colF]; kernel_rfl)) ?_))
  first
    | exact RI.ret rfl ⟨⟨n + 1 + 1 + 1, 2, 59, by omega, by simp [runRows, retV], by simp⟩, fun j hj => by simp [show ¬ j = n + 1 + 1 + 1 by omega]⟩
    | exact RI.normal rfl ⟨⟨n + 1 + 1 + 1, 2, 59, by omega, by simp [runRows, retV], by simp⟩, fun j hj => by simp [show ¬ j = n + 1 + 1 + 1 by omega]⟩
theorem takenR_c (L : List (Int × Int)) (hl : L.length ≤ 1000000) : ACall Try.prog 63 [runsD L] (runsD L) :=
  ACall.ofR (RCall.ofOwn (n0 := 0) fun n _ => takenR_w L hl n _)
def lsV : List Int → SV
  | [] => .nilS
  | x :: L => .d (intL (x :: L))
theorem lsV_nil : lsV [] = .nilS := rfl
theorem lsV_cons (x : Int) (L : List Int) : lsV (x :: L) = .d (intL (x :: L)) := rfl
theorem froms_x (l : List (Int × Int)) (hl : l.length ≤ 1000) : ACall Try.prog 65 [runsD l] (intL (l.map (·.1))) := by
  obtain ⟨T, hT0, hTl, hTn, hTe⟩ := grow_fst l
  rw [← hTe]
  have ct := takenL_c (T l.length) (by have := hTl l.length; omega)
  refine acallK tabOk Try.func65 rfl rfl (show 1 ≤ _ by decide) rfl fun _ => ?_; simp only [Try.ntmps65]
  repeat (first | (with_reducible first | refine zq1 fun _ => ?_ | refine zq2 fun _ => ?_ | refine zq3 ?_) | ((first | refine zq4 ?_ | refine zq5 fun _ _ => ?_ | refine zq6 ?_); simp [-getElem?_pos, z0, z1, z2, z0]) | ((first | refine AWp.ret ?_ | refine AWp.skip ?_ | refine AWp.exit ?_); try simp only [thenP]) | (with_reducible refine zq7 ?_; simp only [blockP, thenP, reduceIte]) | with_reducible refine zq8 ?_)
  refine AWp.loopK (ι := { i : Nat // i ≤ l.length }) (n := 0) (fun i => [(3, lsV (T i.1)), (6, .d (runsD l)), (7, .d (iD l.length)), (8, .d (iD i.1))]) (fun i => []) (fun i => l.length - i.1) ⟨0, Nat.zero_le _⟩ [] ?_ ?_
  · refine ⟨by rfl, by simp [lsV_nil, hT0], by simp [or_imp, forall_and, lsV_nil, hT0] <;> (try (intro _hne; simp [_hne])), by decide⟩
  rintro ⟨i, hi⟩ kk
  have w1 : IntKind.i64.wrap ((i : Int) + 1) = (i : Int) + 1 := wrap64_in (by omega)
  have hTi := hTl i
  by_cases hlt : i < l.length
  · have hii : (i : Int) < l.length := by omega
    obtain ⟨⟨x, p⟩, hx⟩ : ∃ r, l[i]? = some r := ⟨_, List.getElem?_eq_getElem hlt⟩
    have cg := grownL_c (T i) x (by omega)
    have hne : lsV (T (i + 1)) = .d (intL (T (i + 1))) := by
      rw [hTn i x p hx]
      cases T i <;> rfl
    rw [← hTn i x p hx] at cg
    obtain hR | ⟨y, o, hR⟩ : T i = [] ∨ ∃ y o, T i = y :: o := by
      cases T i with
      | nil => exact .inl rfl
      | cons y o => exact .inr ⟨y, o, rfl⟩
    · rw [hR, show intL [] = .list [] from rfl] at cg
      repeat (first | (with_reducible first | refine zq1 fun _ => ?_ | refine zq2 fun _ => ?_ | refine zq3 ?_) | ((first | refine zq4 ?_ | refine zq5 fun _ _ => ?_ | refine zq6 ?_); simp [-getElem?_pos, z0, z1, z2, hii, hlt, hx, hR, lsV_nil, lsV_cons]) | ((first | refine AWp.ret ?_ | refine AWp.skip ?_ | refine AWp.exit ?_); try simp only [thenP]) | (with_reducible refine zq7 ?_; simp only [blockP, thenP, reduceIte]) | with_reducible refine zq8 ?_)
      (first | refine Exec0.call [] cg ?_ rfl ?_ ?_ | refine Exec.call [] cg ?_ rfl ?_ ?_); (focus simp [-getElem?_pos, hx]); (focus simp [-getElem?_pos, z0, z1, z2, hx]); simp [-getElem?_pos, z0, z1, z2, hx]
      repeat (first | (with_reducible first | refine zq1 fun _ => ?_ | refine zq2 fun _ => ?_ | refine zq3 ?_) | ((first | refine zq4 ?_ | refine zq5 fun _ _ => ?_ | refine zq6 ?_); simp [-getElem?_pos, z0, z1, z2, w1]) | ((first | refine AWp.ret ?_ | refine AWp.skip ?_ | refine AWp.exit ?_); try simp only [thenP]) | (with_reducible refine zq7 ?_; simp only [blockP, thenP, reduceIte]) | with_reducible refine zq8 ?_)
      refine LL.go ⟨i + 1, hlt⟩ [] ⟨by rfl, by simp [hne], by simp [or_imp, forall_and, hne] <;> (try (intro _hne; simp [_hne])), by decide⟩ ?_
      simp; omega
    · rw [hR] at cg
      repeat (first | (with_reducible first | refine zq1 fun _ => ?_ | refine zq2 fun _ => ?_ | refine zq3 ?_) | ((first | refine zq4 ?_ | refine zq5 fun _ _ => ?_ | refine zq6 ?_); simp [-getElem?_pos, z0, z1, z2, hii, hlt, hx, hR, lsV_nil, lsV_cons]) | ((first | refine AWp.ret ?_ | refine AWp.skip ?_ | refine AWp.exit ?_); try simp only [thenP]) | (with_reducible refine zq7 ?_; simp only [blockP, thenP, reduceIte]) | with_reducible refine zq8 ?_)
      (first | refine Exec0.call [] cg ?_ rfl ?_ ?_ | refine Exec.call [] cg ?_ rfl ?_ ?_); (focus simp [-getElem?_pos, hx]); (focus simp [-getElem?_pos, z0, z1, z2, hx]); simp [-getElem?_pos, z0, z1, z2, hx]
      repeat (first | (with_reducible first | refine zq1 fun _ => ?_ | refine zq2 fun _ => ?_ | refine zq3 ?_) | ((first | refine zq4 ?_ | refine zq5 fun _ _ => ?_ | refine zq6 ?_); simp [-getElem?_pos, z0, z1, z2, w1]) | ((first | refine AWp.ret ?_ | refine AWp.skip ?_ | refine AWp.exit ?_); try simp only [thenP]) | (with_reducible refine zq7 ?_; simp only [blockP, thenP, reduceIte]) | with_reducible refine zq8 ?_)
      refine LL.go ⟨i + 1, hlt⟩ [] ⟨by rfl, by simp [hne], by simp [or_imp, forall_and, hne] <;> (try (intro _hne; simp [_hne])), by decide⟩ ?_
      simp; omega
  · obtain rfl : i = l.length := by omega
    obtain hR | ⟨y, o, hR⟩ : T l.length = [] ∨ ∃ y o, T l.length = y :: o := by
      cases T l.length with
      | nil => exact .inl rfl
      | cons y o => exact .inr ⟨y, o, rfl⟩
    · rw [hR, show intL [] = .list [] from rfl] at ct
      repeat (first | (with_reducible first | refine zq1 fun _ => ?_ | refine zq2 fun _ => ?_ | refine zq3 ?_) | ((first | refine zq4 ?_ | refine zq5 fun _ _ => ?_ | refine zq6 ?_); simp [-getElem?_pos, z0, z1, z2, hlt, hR, lsV_nil, lsV_cons]) | ((first | refine AWp.ret ?_ | refine AWp.skip ?_ | refine AWp.exit ?_); try simp only [thenP]) | (with_reducible refine zq7 ?_; simp only [blockP, thenP, reduceIte]) | with_reducible refine zq8 ?_)
      (first | refine Exec0.call [] ct ?_ rfl ?_ ?_ | refine Exec.call [] ct ?_ rfl ?_ ?_); (focus simp [-getElem?_pos, z0]); (focus simp [-getElem?_pos, z0, z1, z2, z0]); simp [-getElem?_pos, z0, z1, z2, z0]
      repeat (first | (with_reducible first | refine zq1 fun _ => ?_ | refine zq2 fun _ => ?_ | refine zq3 ?_) | ((first | refine zq4 ?_ | refine zq5 fun _ _ => ?_ | refine zq6 ?_); simp [-getElem?_pos, z0, z1, z2, z0]) | ((first | refine AWp.ret ?_ | refine AWp.skip ?_ | refine AWp.exit ?_); try simp only [thenP]) | (with_reducible refine zq7 ?_; simp only [blockP, thenP, reduceIte]) | with_reducible refine zq8 ?_)
      (first | refine RR.ret ?_ | refine RR.normal ?_); simp [hR, iRows]
    · rw [hR] at ct
      repeat (first | (with_reducible first | refine zq1 fun _ => ?_ | refine zq2 fun _ => ?_ | refine zq3 ?_) | ((first | refine zq4 ?_ | refine zq5 fun _ _ => ?_ | refine zq6 ?_); simp [-getElem?_pos, z0, z1, z2, hlt, hR, lsV_nil, lsV_cons]) | ((first | refine AWp.ret ?_ | refine AWp.skip ?_ | refine AWp.exit ?_); try simp only [thenP]) | (with_reducible refine zq7 ?_; simp only [blockP, thenP, reduceIte]) | with_reducible refine zq8 ?_)
      (first | refine Exec0.call [] ct ?_ rfl ?_ ?_ | refine Exec.call [] ct ?_ rfl ?_ ?_); (focus simp [-getElem?_pos, z0]); (focus simp [-getElem?_pos, z0, z1, z2, z0]); simp [-getElem?_pos, z0, z1, z2, z0]
      repeat (first | (with_reducible first | refine zq1 fun _ => ?_ | refine zq2 fun _ => ?_ | refine zq3 ?_) | ((first | refine zq4 ?_ | refine zq5 fun _ _ => ?_ | refine zq6 ?_); simp [-getElem?_pos, z0, z1, z2, z0]) | ((first | refine AWp.ret ?_ | refine AWp.skip ?_ | refine AWp.exit ?_); try simp only [thenP]) | (with_reducible refine zq7 ?_; simp only [blockP, thenP, reduceIte]) | with_reducible refine zq8 ?_)
      (first | refine RR.ret ?_ | refine RR.normal ?_); simp [hR]
end Go.Proofs.Ytdkneonokbakjaa.Eng

noncomputable section
namespace Go.Proofs.Ytdkneonokbakjaa.Eng
open Go.RowKit
set_option maxRecDepth 100000
set_option maxHeartbeats 8000000
def decAt (l : List Int) (i : Nat) : Bool := if i = 0 then true else match l[i - 1]?, l[i]? with
  | some y, some x => decide (x < y)
  | _, _ => true
def lenB (s : RS) (l : List Int) : Bool := (List.range l.length).all (decAt l) && fromZn s.short s.long l
theorem areLengths_c (s : RS) (l : List Int) (hl : l.length ≤ 1000000) : ACall Try.prog 66 [stoD s, intL l] (bD (lenB s l)) := by
  have cf := areFrom_c s.short s.long l hl
  obtain ⟨r, hr⟩ : ∃ r, r = lenB s l := ⟨_, rfl⟩
  rw [← hr]
  refine acallK tabOk Try.func66 rfl rfl (show 2 ≤ _ by decide) rfl fun _ => ?_; simp only [Try.ntmps66]
  repeat (first | (with_reducible first | refine zq1 fun _ => ?_ | refine zq2 fun _ => ?_ | refine zq3 ?_) | ((first | refine zq4 ?_ | refine zq5 fun _ _ => ?_ | refine zq6 ?_); simp [-getElem?_pos, z0, z1, z2, z0]) | ((first | refine AWp.ret ?_ | refine AWp.skip ?_ | refine AWp.exit ?_); try simp only [thenP]) | (with_reducible refine zq7 ?_; simp only [blockP, thenP, reduceIte]) | with_reducible refine zq8 ?_)
  refine AWp.loopK (ι := { i : Nat // i ≤ l.length ∧ (List.range i).all (decAt l) = true }) (n := 1) (fun i => [(1, .d (intL l)), (2, .ptr 0 0 0), (7, .d (intL l)), (8, .d (iD l.length)), (9, .d (iD i.1))]) (fun i => [(0, .box 25 [.d (iD s.long), .d (iD s.short), .d (iD s.off), .d (iD s.lo), .d (iD s.hi)] false)]) (fun i => l.length - i.1) ⟨0, Nat.zero_le _, rfl⟩ [0] ?_ ?_
  · refine ⟨by rfl, by simp [z0], by simp [or_imp, forall_and, z0] <;> (try (intro _hne; simp [_hne])), by decide⟩
  rintro ⟨i, hi, hall⟩ kk
  by_cases hlt : i < l.length
  · have hii : (i : Int) < l.length := by omega
    obtain ⟨x, hx⟩ : ∃ r, l[i]? = some r := ⟨_, List.getElem?_eq_getElem hlt⟩
    cases i with
    | zero =>
      have w10 : IntKind.i64.wrap 1 = 1 := by decide
      repeat (first | (with_reducible first | refine zq1 fun _ => ?_ | refine zq2 fun _ => ?_ | refine zq3 ?_) | ((first | refine zq4 ?_ | refine zq5 fun _ _ => ?_ | refine zq6 ?_); simp [-getElem?_pos, z0, z1, z2, hii, hlt, hx, w10]) | ((first | refine AWp.ret ?_ | refine AWp.skip ?_ | refine AWp.exit ?_); try simp only [thenP]) | (with_reducible refine zq7 ?_; simp only [blockP, thenP, reduceIte]) | with_reducible refine zq8 ?_)
      refine LL.go ⟨0 + 1, hlt, all_succ hall rfl⟩ [0] ⟨by rfl, by simp [], by simp [or_imp, forall_and, ] <;> (try (intro _hne; simp [_hne])), by decide⟩ ?_
      simp; omega
    | succ j =>
      obtain ⟨y, hy⟩ : ∃ r, l[j]? = some r := ⟨_, List.getElem?_eq_getElem (by omega)⟩
      have hd : decAt l (j + 1) = decide (x < y) := by rw [decAt, if_neg (Nat.succ_ne_zero j), Nat.add_sub_cancel, hx, hy]
      have w3 : IntKind.i64.wrap (j : Int) = (j : Int) := wrap64_in (by omega)
      have w5 : IntKind.i64.wrap ((j : Int) + 1 + 1) = (j : Int) + 1 + 1 := wrap64_in (by omega)
      have hq0 : (0 : Int) < (j : Int) + 1 := by omega
      have hqi : (j : Int) + 1 < l.length := by omega
      have hqp : 0 ≤ (j : Int) + 1 := by omega
      have hqt : ((j : Int) + 1).toNat = j + 1 := by omega
      by_cases c3 : y ≤ x
      · have hr' : r = false := by rw [hr, lenB, all_no hlt (hd.trans (decide_eq_false (by omega)))]; rfl
        repeat (first | (with_reducible first | refine zq1 fun _ => ?_ | refine zq2 fun _ => ?_ | refine zq3 ?_) | ((first | refine zq4 ?_ | refine zq5 fun _ _ => ?_ | refine zq6 ?_); simp [-getElem?_pos, z0, z1, z2, hii, hlt, hx, hy, w3, w5, hq0, hqi, hqp, hqt, c3]) | ((first | refine AWp.ret ?_ | refine AWp.skip ?_ | refine AWp.exit ?_); try simp only [thenP]) | (with_reducible refine zq7 ?_; simp only [blockP, thenP, reduceIte]) | with_reducible refine zq8 ?_)
        (first | refine RR.ret ?_ | refine RR.normal ?_); simp [hr']
      · repeat (first | (with_reducible first | refine zq1 fun _ => ?_ | refine zq2 fun _ => ?_ | refine zq3 ?_) | ((first | refine zq4 ?_ | refine zq5 fun _ _ => ?_ | refine zq6 ?_); simp [-getElem?_pos, z0, z1, z2, hii, hlt, hx, hy, w3, w5, hq0, hqi, hqp, hqt, c3]) | ((first | refine AWp.ret ?_ | refine AWp.skip ?_ | refine AWp.exit ?_); try simp only [thenP]) | (with_reducible refine zq7 ?_; simp only [blockP, thenP, reduceIte]) | with_reducible refine zq8 ?_)
        refine LL.go ⟨j + 1 + 1, hlt, all_succ hall (hd.trans (decide_eq_true (by omega)))⟩ [0] ⟨by rfl, by simp [], by simp [or_imp, forall_and, ] <;> (try (intro _hne; simp [_hne])), by decide⟩ ?_
        simp; omega
  · obtain rfl : i = l.length := by omega
    have hr' : fromZn s.short s.long l = r := by rw [hr, lenB, hall, Bool.true_and]
    rw [hr'] at cf
    repeat (first | (with_reducible first | refine zq1 fun _ => ?_ | refine zq2 fun _ => ?_ | refine zq3 ?_) | ((first | refine zq4 ?_ | refine zq5 fun _ _ => ?_ | refine zq6 ?_); simp [-getElem?_pos, z0, z1, z2, hlt]) | ((first | refine AWp.ret ?_ | refine AWp.skip ?_ | refine AWp.exit ?_); try simp only [thenP]) | (with_reducible refine zq7 ?_; simp only [blockP, thenP, reduceIte]) | with_reducible refine zq8 ?_)
    (first | refine Exec0.call [] cf ?_ rfl ?_ ?_ | refine Exec.call [] cf ?_ rfl ?_ ?_); (focus simp [-getElem?_pos, z0]); (focus simp [-getElem?_pos, z0, z1, z2, z0]); simp [-getElem?_pos, z0, z1, z2, z0]
    repeat (first | (with_reducible first | refine zq1 fun _ => ?_ | refine zq2 fun _ => ?_ | refine zq3 ?_) | ((first | refine zq4 ?_ | refine zq5 fun _ _ => ?_ | refine zq6 ?_); simp [-getElem?_pos, z0, z1, z2, z0]) | ((first | refine AWp.ret ?_ | refine AWp.skip ?_ | refine AWp.exit ?_); try simp only [thenP]) | (with_reducible refine zq7 ?_; simp only [blockP, thenP, reduceIte]) | with_reducible refine zq8 ?_)
    (first | refine RR.ret ?_ | refine RR.normal ?_); simp [z0]
end Go.Proofs.Ytdkneonokbakjaa.Eng

noncomputable section
namespace Go.Proofs.Ytdkneonokbakjaa.Eng
open Go.RowKit
set_option maxRecDepth 100000
set_option maxHeartbeats 16000000
theorem map_fst_get {l : List (Int × Int)} {i : Nat} {x p : Int} (h : l[i]? = some (x, p)) : (l.map (·.1))[i]? = some x := by rw [List.getElem?_map, h]; rfl
theorem lenB_iff {s : RS} {l : List (Int × Int)} : lenB s (l.map (·.1)) = true ↔ (∀ (j : Nat) (x p y q : Int), l[j]? = some (y, q) → l[j + 1]? = some (x, p) → x < y) ∧ ∀ (j : Nat) (x p : Int), l[j]? = some (x, p) → s.short ≤ x ∧ x ≤ s.long := by
  rw [lenB, Bool.and_eq_true]
  constructor
  · rintro ⟨h1, h2⟩
    refine ⟨fun j x p y q hy hx => ?_, fun j x p hx => ?_⟩
    · have := all_at h1 (k := j + 1) (by rw [List.length_map]; exact (List.getElem?_eq_some_iff.1 hx).1)
      rw [decAt, if_neg (Nat.succ_ne_zero j), Nat.add_sub_cancel, map_fst_get hy, map_fst_get hx] at this
      simpa using this
    · have := List.all_eq_true.1 h2 x (List.mem_of_getElem? (map_fst_get hx))
      simpa [inZn] using this
  · rintro ⟨h1, h2⟩
    constructor
    · rw [List.all_eq_true]
      intro i hi
      rw [List.mem_range, List.length_map] at hi
      cases i with
      | zero => rfl
      | succ j =>
        obtain ⟨⟨x, p⟩, hx⟩ : ∃ r, l[j + 1]? = some r := ⟨_, List.getElem?_eq_getElem hi⟩
        obtain ⟨⟨y, q⟩, hy⟩ : ∃ r, l[j]? = some r := ⟨_, List.getElem?_eq_getElem (by omega)⟩
        rw [decAt, if_neg (Nat.succ_ne_zero j), Nat.add_sub_cancel, map_fst_get hy, map_fst_get hx]
        exact decide_eq_true (h1 j x p y q hy hx)
    · rw [fromZn, List.all_eq_true]
      intro x hx
      obtain ⟨⟨x, p⟩, hr, rfl⟩ := List.mem_map.1 hx
      obtain ⟨j, hj⟩ := List.getElem?_of_mem hr
      have := h2 j x p hj
      simp only [inZn, decide_eq_true_eq]
      omega
theorem bear_ok {s : RS} {ps : List Int} (ok : StoOk s ps) {P : Nat} {t x : Int} (ht : ps[P]? = some t) (h1 : s.short ≤ x) (h2 : x ≤ s.long) : bearB (allR s ps fun _ => true) P x = okAt s t x := by
  rw [bear_bet ok h1, Bool.eq_iff_iff, bearB_iff, betA_at ht]
  exact bet_iff (ok.turn ht).1 h1 h2
end Go.Proofs.Ytdkneonokbakjaa.Eng

noncomputable section
namespace Go.Proofs.Ytdkneonokbakjaa.Eng
open Go.RowKit
set_option maxRecDepth 100000
set_option maxHeartbeats 16000000
def mrk (f : Nat → Bool) : List SV := (List.range 12).map fun j => SV.d (bD (f j))
@[simp] theorem mrk_len (f : Nat → Bool) : (mrk f).length = 12 := by simp [mrk, List.range_succ]
theorem mrk_at (f : Nat → Bool) {p : Nat} (hp : p < 12) : List.take 1 (List.drop p (mrk f)) = [.d (bD (f p))] := by
  have : p = 0 ∨ p = 1 ∨ p = 2 ∨ p = 3 ∨ p = 4 ∨ p = 5 ∨ p = 6 ∨ p = 7 ∨ p = 8 ∨ p = 9 ∨ p = 10 ∨ p = 11 := by omega
  rcases this with rfl | rfl | rfl | rfl | rfl | rfl | rfl | rfl | rfl | rfl | rfl | rfl <;> rfl
theorem mrk_put (f : Nat → Bool) {p : Nat} (hp : p < 12) : List.take p (mrk f) ++ SV.d (Dat.val (Value.bool true)) :: List.drop (p + 1) (mrk f) = mrk fun j => if j = p then true else f j := by
  have : p = 0 ∨ p = 1 ∨ p = 2 ∨ p = 3 ∨ p = 4 ∨ p = 5 ∨ p = 6 ∨ p = 7 ∨ p = 8 ∨ p = 9 ∨ p = 10 ∨ p = 11 := by omega
  rcases this with rfl | rfl | rfl | rfl | rfl | rfl | rfl | rfl | rfl | rfl | rfl | rfl <;> rfl
theorem mrk_congr {f g : Nat → Bool} (h : ∀ j, j < 12 → f j = g j) : mrk f = mrk g := List.map_congr_left fun j hj => by rw [h j (List.mem_range.1 hj)]
theorem standApart_w {s : RS} {ps : List Int} {A : Rgs} {w : Nat} {m : Mem} (hm : WhAt s ps A w m) (n2 : ps.length ≤ 12) (l : List Int) (hl : l.length ≤ 20) (r : Bool) (n : Nat) (hw : w < n)
    (hr : r = true ↔ ∀ (a b : Nat) (x y : Int), a < b → l[a]? = some x → l[b]? = some y → ∀ p, p < ps.length → ¬ (bearB A p x = true ∧ bearB A p y = true)) :
    CWp Try.prog 67 [.ptr w 0 0, .d (intL l)] n m fun y n' m' => n ≤ n' ∧ y = .d (bD r) ∧ ∀ j, j < n → m' j = m j := by
  have hwl := whS_len s ps
  refine cwpK tabOk Try.func67 rfl rfl (show 2 ≤ _ by decide) rfl fun _ => ?_; simp only [Try.ntmps67]
  repeat (first | (with_reducible first | refine AWi.seqK fun _ => ?_ | refine AWi.blockK fun _ => ?_ | refine KI.go ?_) | ((first | refine AWi.region tabOk ?_ | refine AWi.condK fun _ _ => ?_); simp [-getElem?_pos, z0, z1, z2, z0]) | ((first | refine AWi.ret ?_ | refine AWi.skip ?_ | refine AWi.exit ?_); try simp only [thenP]) | (with_reducible refine BB.go ?_; simp only [blockP, thenP, reduceIte]))
  refine AWi.loopK (ι := { i : Nat // i ≤ l.length ∧ ∀ (a b : Nat) (x y : Int), a < i → a < b → l[a]? = some x → l[b]? = some y → ∀ p, p < ps.length → ¬ (bearB A p x = true ∧ bearB A p y = true) }) (fun i n1 t => n + 1 + 1 ≤ n1 ∧ t.slots 0 = .ptr w 0 0 ∧ t.slots 1 = .d (intL l) ∧ t.slots 5 = .ptr (n + 1) 0 0 ∧ t.slots 13 = .d (intL l) ∧ t.slots 14 = .d (iD l.length) ∧ t.slots 15 = .d (iD i.1) ∧ (∃ f, t.mem (n + 1) = some (.box 124 (mrk f) false)) ∧ ∀ j, j < n → t.mem j = m j) (fun i => l.length - i.1) ⟨0, Nat.zero_le _, fun a b x y h => by omega⟩ ?_ ?_
  · exact ⟨by omega, by simp, by simp, by simp, by simp, by simp, by simp, ⟨fun _ => false, if_pos rfl⟩, fun j hj => by dsimp only; (try dsimp only); repeat (first | rw [setMem_lt (by omega)] | rw [putN_lt (by omega)])⟩
  rintro ⟨i, hi, hno⟩ n1 t ⟨r0, t0, t1, t5, t13, t14, t15, ⟨f, tm⟩, tl⟩ kk
  simp only at t15
  have w1 : IntKind.i64.wrap ((i : Int) + 1) = (i : Int) + 1 := wrap64_in (by omega)
  have hwt : WhAt s ps A w t.mem := (tl w hw).trans hm
  by_cases hlt : i < l.length
  · have hii : (i : Int) < l.length := by omega
    obtain ⟨x, hx⟩ : ∃ x, l[i]? = some x := ⟨_, List.getElem?_eq_getElem hlt⟩
    repeat (first | (with_reducible first | refine AWi.seqK fun _ => ?_ | refine AWi.blockK fun _ => ?_ | refine KI.go ?_) | (refine AWi.condK fun _ _ => ?_; simp [-getElem?_pos, z0, z1, z2, z0]) | ((first | refine AWi.ret ?_ | refine AWi.skip ?_ | refine AWi.exit ?_); try simp only [thenP]) | (with_reducible refine BB.go ?_; simp only [blockP, thenP, reduceIte]))
    refine AWi.region tabOk ?_
    simp [-getElem?_pos, z0, z1, z2, t14, t15, hii]
    repeat (first | (with_reducible first | refine AWi.seqK fun _ => ?_ | refine AWi.blockK fun _ => ?_ | refine KI.go ?_) | (refine AWi.condK fun _ _ => ?_; simp [-getElem?_pos, z0, z1, z2, hii]) | ((first | refine AWi.ret ?_ | refine AWi.skip ?_ | refine AWi.exit ?_); try simp only [thenP]) | (with_reducible refine BB.go ?_; simp only [blockP, thenP, reduceIte]))
    refine AWi.region tabOk ?_
    simp [-getElem?_pos, z0, z1, z2, t13, t15, hii, hlt, hx]
    repeat (first | (with_reducible first | refine AWi.seqK fun _ => ?_ | refine AWi.blockK fun _ => ?_ | refine KI.go ?_) | (refine AWi.condK fun _ _ => ?_; simp [-getElem?_pos, z0, z1, z2, hii]) | ((first | refine AWi.ret ?_ | refine AWi.skip ?_ | refine AWi.exit ?_); try simp only [thenP]) | (with_reducible refine BB.go ?_; simp only [blockP, thenP, reduceIte]))
    refine AWi.regionS ?_
    refine ExecS.slice tabOk (N := 12) (id := n + 1) (j := 0) rfl rfl (TB124) rfl (TB4) (by decide) (by simp [-getElem?_pos, z0, z1, z2, t5]) ?_
    refine ExecS.clear tabOk (ty := 124) (N := 12) (id := n + 1) (j := 0) (cp := 12) (cells := mrk f) rfl rfl rfl rfl rfl (TB125) rfl (TB4) (by decide) (by simp [-getElem?_pos, z0, z1, z2]) (by simp [putS, tm]) (by simp) ?_
    rw [show splice _ _ _ = mrk fun _ => false from rfl]
    simp [putS, ExecS]
    with_reducible refine KI.go ?_
    have o1 : ¬ w = n + 1 := by omega
    have hwl2 := whS_len s ps
    repeat (first | (with_reducible first | refine AWi.seqK fun _ => ?_ | refine AWi.blockK fun _ => ?_ | refine KI.go ?_) | ((first | refine AWi.region tabOk ?_ | refine AWi.condK fun _ _ => ?_); simp [-getElem?_pos, z0, z1, z2, t0, hwt, o1, hwl2]) | ((first | refine AWi.ret ?_ | refine AWi.skip ?_ | refine AWi.exit ?_); try simp only [thenP]) | (with_reducible refine BB.go ?_; simp only [blockP, thenP, reduceIte]))
    refine AWi.loopK (ι := { k : Nat // k ≤ ps.length }) (fun k n3 u => n1 ≤ n3 ∧ u.slots 0 = .ptr w 0 0 ∧ u.slots 1 = .d (intL l) ∧ u.slots 5 = .ptr (n + 1) 0 0 ∧ u.slots 6 = .d (iD i) ∧ u.slots 7 = .d (iD x) ∧ u.slots 13 = .d (intL l) ∧ u.slots 14 = .d (iD l.length) ∧ u.slots 15 = .d (iD i) ∧ u.slots 25 = .d (iD ps.length) ∧ u.slots 26 = .d (iD k.1) ∧ u.mem (n + 1) = some (.box 124 (mrk fun j => decide (j < k.1) && bearB A j x) false) ∧ ∀ j, j < n → u.mem j = m j) (fun k => ps.length - k.1) ⟨0, Nat.zero_le _⟩ ?_ ?_
    · exact ⟨by omega, by simp [t0], by simp [t1], by simp [t5], by simp, by simp, by simp [t13], by simp [t14], by simp [t15], by simp, by simp, Eq.trans (if_pos rfl) (by rw [show (mrk fun j => decide (j < (0 : Nat)) && bearB A j x) = mrk fun _ => false from mrk_congr fun j _ => by simp]), fun j hj => Eq.trans (by (try dsimp only); repeat (first | rw [setMem_lt (by omega)] | rw [putN_lt (by omega)])) (tl j hj)⟩
    rintro ⟨k, hk⟩ n3 u ⟨q0, u0, u1, u5, u6, u7, u13, u14, u15, u25, u26, um, ul⟩ k2
    simp only at u26 um
    have hwu : WhAt s ps A w u.mem := (ul w hw).trans hm
    have wk : IntKind.i64.wrap ((k : Int) + 1) = (k : Int) + 1 := wrap64_in (by omega)
    by_cases hkl : k < ps.length
    · have hki : (k : Int) < ps.length := by omega
      have hk12 : k < 12 := by omega
      have hk12i : (k : Int) < 12 := by omega
      repeat (first | (with_reducible first | refine AWi.seqK fun _ => ?_ | refine AWi.blockK fun _ => ?_ | refine KI.go ?_) | ((first | refine AWi.region tabOk ?_ | refine AWi.condK fun _ _ => ?_); simp [-getElem?_pos, z0, z1, z2, u0, u7, u25, u26, hki]) | ((first | refine AWi.ret ?_ | refine AWi.skip ?_ | refine AWi.exit ?_); try simp only [thenP]) | (with_reducible refine BB.go ?_; simp only [blockP, thenP, reduceIte]))
      refine ExecI.callC (bears_w (p := k) hwu hk12 x _ (by omega)) rfl (by simp [calleeS, evList]) ?_
      rintro y n4 m4 ⟨v1, v2, rfl, v3⟩
      have um4 := (v3 (n + 1) (by omega)).trans um
      have hput := mrk_put (fun j => decide (j < k) && bearB A j x) hk12
      have hle : k + 1 ≤ 12 := by omega
      have hml := mrk_len (fun j => decide (j < k) && bearB A j x)
      cases hb : bearB A k x with
      | false =>
        have hcg : (mrk fun j => decide (j < k) && bearB A j x) = mrk fun j => decide (j < k + 1) && bearB A j x := mrk_congr fun j _ => by
          by_cases e : j = k
          · subst e; simp [hb]
          · rw [Bool.eq_iff_iff]; simp only [Bool.and_eq_true, decide_eq_true_eq]; constructor <;> rintro ⟨h1, h2⟩ <;> exact ⟨by omega, h2⟩
        rw [hcg] at um4
        simp [-getElem?_pos, z0, z1, z2]
        repeat (first | (with_reducible first | refine AWi.seqK fun _ => ?_ | refine AWi.blockK fun _ => ?_ | refine KI.go ?_) | ((first | refine AWi.region tabOk ?_ | refine AWi.condK fun _ _ => ?_); simp [-getElem?_pos, z0, z1, z2, u26, wk]) | ((first | refine AWi.ret ?_ | refine AWi.skip ?_ | refine AWi.exit ?_); try simp only [thenP]) | (with_reducible refine BB.go ?_; simp only [blockP, thenP, reduceIte]))
        exact LI.go ⟨k + 1, hkl⟩ ⟨by omega, by simp [u0], by simp [u1], by simp [u5], by simp [u6], by simp [u7], by simp [u13], by simp [u14], by simp [u15], by simp [u25], by simp [iD], um4, fun j hj => (v3 j (by omega)).trans (ul j hj)⟩ (by simp; omega)
      | true =>
        have hcg : (mrk fun j => if j = k then true else decide (j < k) && bearB A j x) = mrk fun j => decide (j < k + 1) && bearB A j x := mrk_congr fun j _ => by
          by_cases e : j = k
          · subst e; simp [hb]
          · rw [if_neg e, Bool.eq_iff_iff]; simp only [Bool.and_eq_true, decide_eq_true_eq]; constructor <;> rintro ⟨h1, h2⟩ <;> exact ⟨by omega, h2⟩
        rw [hcg] at hput
        simp [-getElem?_pos, z0, z1, z2]
        repeat (first | (with_reducible first | refine AWi.seqK fun _ => ?_ | refine AWi.blockK fun _ => ?_ | refine KI.go ?_) | ((first | refine AWi.region tabOk ?_ | refine AWi.condK fun _ _ => ?_); simp [-getElem?_pos, z0, z1, z2, u5, u26, wk, um4, hk12, hk12i, hle, hml, hput]) | ((first | refine AWi.ret ?_ | refine AWi.skip ?_ | refine AWi.exit ?_); try simp only [thenP]) | (with_reducible refine BB.go ?_; simp only [blockP, thenP, reduceIte]))
        exact LI.go ⟨k + 1, hkl⟩ ⟨by omega, by simp [u0], by simp [u1], by simp [u5], by simp [u6], by simp [u7], by simp [u13], by simp [u14], by simp [u15], by simp [u25], by simp [iD], if_pos rfl, fun j hj => Eq.trans (by (try dsimp only); repeat (first | rw [setMem_lt (by omega)] | rw [putN_lt (by omega)])) ((v3 j (by omega)).trans (ul j hj))⟩ (by simp; omega)
    · obtain rfl : k = ps.length := by omega
      obtain ⟨M, hM⟩ : ∃ M, M = fun j => decide (j < ps.length) && bearB A j x := ⟨_, rfl⟩
      rw [← hM] at um
      have hMi : ∀ p, M p = true ↔ p < ps.length ∧ bearB A p x = true := fun p => by rw [hM]; simp
      have wi : IntKind.i64.wrap ((i : Int) + 1) = (i : Int) + 1 := wrap64_in (by omega)
      have b1 : ((i : Int) + 1).toNat = i + 1 := by omega
      have b2 : (0 : Int) ≤ (i : Int) + 1 := by omega
      have b3 : i + 1 ≤ l.length := hlt
      have b4 : (i : Int) + 1 ≤ l.length := by omega
      repeat (first | (with_reducible first | refine AWi.seqK fun _ => ?_ | refine AWi.blockK fun _ => ?_ | refine KI.go ?_) | ((first | refine AWi.region tabOk ?_ | refine AWi.condK fun _ _ => ?_); simp [-getElem?_pos, z0, z1, z2, u1, u6, u25, u26, wi, b1, b2, b3, b4]) | ((first | refine AWi.ret ?_ | refine AWi.skip ?_ | refine AWi.exit ?_); try simp only [thenP]) | (with_reducible refine BB.go ?_; simp only [blockP, thenP, reduceIte]))
      have hdr : List.drop (i + 1) (List.take l.length (iRows l)) = iRows (l.drop (i + 1)) := by rw [List.take_of_length_le (by simp [iRows])]; simp [iRows, List.map_drop]
      have hdl : l.length - (i + 1) = (l.drop (i + 1)).length := by rw [List.length_drop]
      have hdg : ∀ b, (l.drop (i + 1))[b]? = l[i + 1 + b]? := fun b => by rw [List.getElem?_drop]
      obtain ⟨D, hD⟩ : ∃ D, D = l.drop (i + 1) := ⟨_, rfl⟩
      rw [← hD] at hdr hdl hdg
      have hDl : D.length ≤ 20 := by omega
      have um' : u.mem (n + 1) = some (.box 124 (mrk M) false) := um
      refine AWi.loopK (ι := { j : Nat // j ≤ D.length ∧ ∀ (b : Nat) (y : Int), b < j → D[b]? = some y → ∀ p, p < 12 → ¬ (M p = true ∧ bearB A p y = true) }) (fun j n4 v => n1 ≤ n4 ∧ v.slots 0 = .ptr w 0 0 ∧ v.slots 1 = .d (intL l) ∧ v.slots 5 = .ptr (n + 1) 0 0 ∧ v.slots 13 = .d (intL l) ∧ v.slots 14 = .d (iD l.length) ∧ v.slots 15 = .d (iD i) ∧ v.slots 39 = .d (intL D) ∧ v.slots 40 = .d (iD D.length) ∧ v.slots 41 = .d (iD j.1) ∧ v.mem (n + 1) = some (.box 124 (mrk M) false) ∧ ∀ j, j < n → v.mem j = m j) (fun j => D.length - j.1) ⟨0, Nat.zero_le _, fun b y h => by omega⟩ ?_ ?_
      · exact ⟨by omega, by simp [u0], by simp [u1], by simp [u5], by simp [u13], by simp [u14], by simp [u15], by simp [hdr], by simp [hdl], by simp, um', ul⟩
      rintro ⟨j, hj, hjo⟩ n4 v ⟨c0, v0, v1, v5, v13, v14, v15, v39, v40, v41, vm, vl⟩ k3
      simp only at v41
      have wj : IntKind.i64.wrap ((j : Int) + 1) = (j : Int) + 1 := wrap64_in (by omega)
      by_cases hjl : j < D.length
      · have hji : (j : Int) < D.length := by omega
        obtain ⟨y, hy⟩ : ∃ y, D[j]? = some y := ⟨_, List.getElem?_eq_getElem hjl⟩
        have hm12 : List.take 12 (mrk M) = mrk M := List.take_of_length_le (by simp)
        repeat (first | (with_reducible first | refine AWi.seqK fun _ => ?_ | refine AWi.blockK fun _ => ?_ | refine KI.go ?_) | ((first | refine AWi.region tabOk ?_ | refine AWi.condK fun _ _ => ?_); simp [-getElem?_pos, z0, z1, z2, v5, v39, v40, v41, hji, hjl, hy, vm]) | ((first | refine AWi.ret ?_ | refine AWi.skip ?_ | refine AWi.exit ?_); try simp only [thenP]) | (with_reducible refine BB.go ?_; simp only [blockP, thenP, reduceIte]))
        refine AWi.loopK (ι := { k : Nat // k ≤ 12 ∧ ∀ p, p < k → ¬ (M p = true ∧ bearB A p y = true) }) (fun k n5 v => n1 ≤ n5 ∧ v.slots 0 = .ptr w 0 0 ∧ v.slots 1 = .d (intL l) ∧ v.slots 5 = .ptr (n + 1) 0 0 ∧ v.slots 10 = .d (iD y) ∧ v.slots 13 = .d (intL l) ∧ v.slots 14 = .d (iD l.length) ∧ v.slots 15 = .d (iD i) ∧ v.slots 39 = .d (intL D) ∧ v.slots 40 = .d (iD D.length) ∧ v.slots 41 = .d (iD j) ∧ v.slots 45 = .agg (mrk M) ∧ v.slots 46 = .d (iD k.1) ∧ v.mem (n + 1) = some (.box 124 (mrk M) false) ∧ ∀ j, j < n → v.mem j = m j) (fun k => 12 - k.1) ⟨0, by omega, fun p h => by omega⟩ ?_ ?_
        · exact ⟨by omega, by simp [v0], by simp [v1], by simp [v5], by simp, by simp [v13], by simp [v14], by simp [v15], by simp [v39], by simp [v40], by simp [v41], by simp [hm12], by simp, vm, vl⟩
        rintro ⟨k, hk, hko⟩ n5 z ⟨d0, x0, x1, x5, x10, x13, x14, x15, x39, x40, x41, x45, x46, xm, xl⟩ k4
        simp only at x46
        have wk : IntKind.i64.wrap ((k : Int) + 1) = (k : Int) + 1 := wrap64_in (by omega)
        have hwz : WhAt s ps A w z.mem := (xl w hw).trans hm
        by_cases hk12 : k < 12
        · have hki : (k : Int) < 12 := by omega
          have hat := mrk_at M hk12
          have hle : k + 1 ≤ 12 := by omega
          have hml := mrk_len M
          have hnk : M k = false ∨ bearB A k y = false → ∀ p, p < k + 1 → ¬ (M p = true ∧ bearB A p y = true) := fun h p hp => by
            by_cases e : p = k
            · subst e; rintro ⟨h1, h2⟩; rcases h with h | h
              · rw [h] at h1; cases h1
              · rw [h] at h2; cases h2
            · exact hko p (by omega)
          cases hMk : M k with
          | false =>
            rw [hMk] at hat
            repeat (first | (with_reducible first | refine AWi.seqK fun _ => ?_ | refine AWi.blockK fun _ => ?_ | refine KI.go ?_) | ((first | refine AWi.region tabOk ?_ | refine AWi.condK fun _ _ => ?_); simp [-getElem?_pos, z0, z1, z2, x0, x10, x45, x46, hki, hat, hle, hml, wk]) | ((first | refine AWi.ret ?_ | refine AWi.skip ?_ | refine AWi.exit ?_); try simp only [thenP]) | (with_reducible refine BB.go ?_; simp only [blockP, thenP, reduceIte]))
            exact LI.go ⟨k + 1, hk12, hnk (.inl hMk)⟩ ⟨by omega, by simp [x0], by simp [x1], by simp [x5], by simp [x10], by simp [x13], by simp [x14], by simp [x15], by simp [x39], by simp [x40], by simp [x41], by simp [x45], by simp [iD], xm, xl⟩ (by simp; omega)
          | true =>
            rw [hMk] at hat
            repeat (first | (with_reducible first | refine AWi.seqK fun _ => ?_ | refine AWi.blockK fun _ => ?_ | refine KI.go ?_) | ((first | refine AWi.region tabOk ?_ | refine AWi.condK fun _ _ => ?_); simp [-getElem?_pos, z0, z1, z2, x0, x10, x45, x46, hki, hat, hle, hml, wk]) | ((first | refine AWi.ret ?_ | refine AWi.skip ?_ | refine AWi.exit ?_); try simp only [thenP]) | (with_reducible refine BB.go ?_; simp only [blockP, thenP, reduceIte]))
            refine ExecI.callC (bears_w (p := k) hwz hk12 y _ (by omega)) (by simp [-getElem?_pos, z0, z1, z2]) (by simp [calleeS, evList]) ?_
            rintro yy n6 m6 ⟨e1, e2, rfl, e3⟩
            cases hb : bearB A k y with
            | false =>
              simp [-getElem?_pos, z0, z1, z2]
              repeat (first | (with_reducible first | refine AWi.seqK fun _ => ?_ | refine AWi.blockK fun _ => ?_ | refine KI.go ?_) | ((first | refine AWi.region tabOk ?_ | refine AWi.condK fun _ _ => ?_); simp [-getElem?_pos, z0, z1, z2, x46, wk]) | ((first | refine AWi.ret ?_ | refine AWi.skip ?_ | refine AWi.exit ?_); try simp only [thenP]) | (with_reducible refine BB.go ?_; simp only [blockP, thenP, reduceIte]))
              exact LI.go ⟨k + 1, hk12, hnk (.inr hb)⟩ ⟨by omega, by simp [x0], by simp [x1], by simp [x5], by simp [x10], by simp [x13], by simp [x14], by simp [x15], by simp [x39], by simp [x40], by simp [x41], by simp [x45], by simp [iD], (e3 _ (by omega)).trans xm, fun j hj => (e3 j (by omega)).trans (xl j hj)⟩ (by simp; omega)
            | true =>
              have hMk2 := (hMi k).1 hMk
              have hrf : r = false := by
                cases r with
                | false => rfl
                | true => exact absurd ⟨hMk2.2, hb⟩ (hr.1 rfl i (i + 1 + j) x y (by omega) hx ((hdg j).symm.trans hy) k hMk2.1)
              simp [-getElem?_pos, z0, z1, z2]
              repeat (first | (with_reducible first | refine AWi.seqK fun _ => ?_ | refine AWi.blockK fun _ => ?_ | refine KI.go ?_) | ((first | refine AWi.region tabOk ?_ | refine AWi.condK fun _ _ => ?_); simp [-getElem?_pos, z0, z1, z2, z0]) | ((first | refine AWi.ret ?_ | refine AWi.skip ?_ | refine AWi.exit ?_); try simp only [thenP]) | (with_reducible refine BB.go ?_; simp only [blockP, thenP, reduceIte]))
              exact RI.ret rfl ⟨by omega, by rw [hrf]; rfl, fun j hj => (e3 j (by omega)).trans (xl j hj)⟩
        · obtain rfl : k = 12 := by omega
          repeat (first | (with_reducible first | refine AWi.seqK fun _ => ?_ | refine AWi.blockK fun _ => ?_ | refine KI.go ?_) | ((first | refine AWi.region tabOk ?_ | refine AWi.condK fun _ _ => ?_); simp [-getElem?_pos, z0, z1, z2, x41, x46, wj]) | ((first | refine AWi.ret ?_ | refine AWi.skip ?_ | refine AWi.exit ?_); try simp only [thenP]) | (with_reducible refine BB.go ?_; simp only [blockP, thenP, reduceIte]))
          refine LI.go ⟨j + 1, hjl, fun b y' hb hy' p hp => ?_⟩ ⟨by omega, by simp [x0], by simp [x1], by simp [x5], by simp [x13], by simp [x14], by simp [x15], by simp [x39], by simp [x40], by simp [iD], xm, xl⟩ (by simp; omega)
          by_cases e : b = j
          · subst e
            rw [hy] at hy'
            cases hy'
            exact hko p hp
          · exact hjo b y' (by omega) hy' p hp
      · obtain rfl : j = D.length := by omega
        repeat (first | (with_reducible first | refine AWi.seqK fun _ => ?_ | refine AWi.blockK fun _ => ?_ | refine KI.go ?_) | ((first | refine AWi.region tabOk ?_ | refine AWi.condK fun _ _ => ?_); simp [-getElem?_pos, z0, z1, z2, v15, v40, v41, wi]) | ((first | refine AWi.ret ?_ | refine AWi.skip ?_ | refine AWi.exit ?_); try simp only [thenP]) | (with_reducible refine BB.go ?_; simp only [blockP, thenP, reduceIte]))
        refine LI.go ⟨i + 1, hlt, fun a b xa y ha hab hxa hyb p hp => ?_⟩ ⟨by omega, by simp [v0], by simp [v1], by simp [v5], by simp [v13], by simp [v14], by simp [iD], ⟨M, vm⟩, vl⟩ (by simp; omega)
        by_cases e : a = i
        · subst e
          rw [hx] at hxa
          cases hxa
          have hbl := (List.getElem?_eq_some_iff.1 hyb).1
          have h := hjo (b - (a + 1)) y (by omega) ((hdg _).trans (by rw [show a + 1 + (b - (a + 1)) = b by omega]; exact hyb)) p (by omega)
          rintro ⟨h1, h2⟩
          exact h ⟨(hMi p).2 ⟨hp, h1⟩, h2⟩
        · exact hno a b xa y (by omega) hab hxa hyb p hp
  · obtain rfl : i = l.length := by omega
    have hrt : r = true := hr.2 fun a b x y hab hx hy => hno a b x y (List.getElem?_eq_some_iff.1 hx).1 hab hx hy
    repeat (first | (with_reducible first | refine AWi.seqK fun _ => ?_ | refine AWi.blockK fun _ => ?_ | refine KI.go ?_) | ((first | refine AWi.region tabOk ?_ | refine AWi.condK fun _ _ => ?_); simp [-getElem?_pos, z0, z1, z2, t14, t15]) | ((first | refine AWi.ret ?_ | refine AWi.skip ?_ | refine AWi.exit ?_); try simp only [thenP]) | (with_reducible refine BB.go ?_; simp only [blockP, thenP, reduceIte]))
    exact RI.ret rfl ⟨by omega, by rw [hrt]; rfl, tl⟩
end Go.Proofs.Ytdkneonokbakjaa.Eng

namespace Go.Proofs.Ytdkneonokbakjaa.Eng
open Go.RowKit
def leastStep (cost : Int → Int) (st : Int × Int × Bool) (b : Int) : Int × Int × Bool := if st.2.2 = false ∨ cost b < st.2.1 then (b, cost b, true) else st
def leastN (cost : Int → Int) (bs : List Int) : Int × Int × Bool := bs.foldl (leastStep cost) (0, 0, false)
theorem leastN_succ (cost : Int → Int) {bs : List Int} {i : Nat} {b : Int} (h : bs[i]? = some b) : leastN cost (bs.take (i + 1)) = leastStep cost (leastN cost (bs.take i)) b := by
  obtain ⟨hi, rfl⟩ := List.getElem?_eq_some_iff.1 h
  unfold leastN
  rw [List.take_succ_eq_append_getElem hi, List.foldl_append]
  rfl
def oneI (b : Int) : List SV := [.d (iD b)]
set_option maxRecDepth 100000 in
set_option maxHeartbeats 4000000 in
theorem leastBy_w {f : FuncId} {us vs : List SV} {args : SV → List SV} {bs : List Int} {K : Mem → Prop} (hit : Iterates Try.prog f args (bs.map oneI) K) (ha : ∀ Y, args Y = us ++ [Y] ++ vs) (B : SV) (hB : FnV B) (cost : Int → Int) (n : Nat) (m : Mem) (hK : K m) (hKb : Below' n K)
    (hby : ∀ b ∈ bs, ∀ n' m', n ≤ n' → (∀ j, j < n → m' j = m j) → YCall Try.prog B [.d (iD b)] n' m' fun y n'' m'' => n' ≤ n'' ∧ (∀ j, j < n' → m'' j = m' j) ∧ y = .d (iD (cost b))) :
    CWp Try.prog 80 [.fn f us vs, B] n m fun y n' m' => n ≤ n' ∧ (∀ j, j < n → m' j = m j) ∧ y = .tup [.d (iD (leastN cost bs).1), .d (bD (leastN cost bs).2.2)] := by
  obtain ⟨hB1, hB2⟩ := hB
  refine cwpK tabOk Try.func80 rfl rfl (show 2 ≤ _ by decide) rfl fun _ => ?_; simp only [Try.ntmps80]
  refine AWi.seqK fun _ => ?_
  refine AWi.region tabOk ?_
  simp [-getElem?_pos, z0, z1, z2, -SV.fit, -SV.cells, hB1, hB2]
  repeat (first | (with_reducible first | refine AWi.seqK fun _ => ?_ | refine AWi.blockK fun _ => ?_ | refine KI.go ?_) | ((first | refine AWi.region tabOk ?_ | refine AWi.condK fun _ _ => ?_ | refine AWi.draws tabOk rfl (by kernel_rfl) (by kernel_rfl) ?_); simp [-getElem?_pos, z0, z1, z2, z0]) | ((first | refine AWi.ret ?_ | refine AWi.skip ?_ | refine AWi.exit ?_); try simp only [thenP]) | (with_reducible refine BB.go ?_; simp only [blockP, thenP, reduceIte]) | (with_reducible refine And.intro (okLog_c (by simp [footOf, guardSlot, slotsOf, idsRead, looks, idsOf, idsOf1, idsWritten, colF]; kernel_rfl)) ?_))
  refine AWi.iterK hit rfl ha (fun _ h => by cases h) rfl (by simp [oneI])
    (fun i mm => (∀ j, j < n → mm j = m j) ∧ mm n = some (.box 105 [B] false) ∧ mm (n + 1 + 1 + 1) = some (.box 3 [.d (iD (leastN cost (bs.take i)).1)] false) ∧ mm (n + 1 + 1 + 1 + 1) = some (.box 2 [.d (iD (leastN cost (bs.take i)).2.1)] false) ∧ mm (n + 1 + 1 + 1 + 1 + 1) = some (.box 4 [.d (bD (leastN cost (bs.take i)).2.2)] false))
    (fun _ _ => False) ?_ ?_ ?_ ?_ ?_ ?_ ?_
  · rintro i mm mm' h ⟨h1, h2, h3, h4, h5⟩
    exact ⟨fun j hj => (h j (by omega)).trans (h1 j hj), (h _ (by omega)).trans h2, (h _ (by omega)).trans h3, (h _ (by omega)).trans h4, (h _ (by omega)).trans h5⟩
  · exact fun _ _ _ _ h => h
  · exact fun i mm h => hKb _ _ h.1 hK
  · refine ⟨fun j hj => ?_, ?_, ?_, ?_, ?_⟩
    · simp [show ¬ j = n + 1 + 1 + 1 by omega, show ¬ j = n by omega, show ¬ j = n + 1 + 1 + 1 + 1 by omega, show ¬ j = n + 1 + 1 + 1 + 1 + 1 by omega]
    · simp [show ¬ n = n + 1 + 1 + 1 + 1 + 1 by omega, show ¬ n = n + 1 + 1 + 1 + 1 by omega, show ¬ n = n + 1 + 1 + 1 by omega]
    · simp [leastN, iD]
    · simp [leastN, iD]
    · simp [leastN, bD]
  · rintro i n2 m2 z hz hn2 ⟨h1, h2, h3, h4, h5⟩ kk
    obtain ⟨b, hb, rfl⟩ : ∃ b, bs[i]? = some b ∧ oneI b = z := by simpa using hz
    have hs := leastN_succ cost hb
    generalize leastN cost (bs.take i) = st at h3 h4 h5 hs
    obtain ⟨lb, lc, lf⟩ := st
    repeat (first | (with_reducible first | refine AWi.seqK fun _ => ?_ | refine AWi.blockK fun _ => ?_ | refine KI.go ?_) | ((first | refine AWi.region tabOk ?_ | refine AWi.condK fun _ _ => ?_ | refine AWi.draws tabOk rfl (by kernel_rfl) (by kernel_rfl) ?_); simp [-getElem?_pos, z0, z1, z2, putAll, oneI]) | ((first | refine AWi.ret ?_ | refine AWi.skip ?_ | refine AWi.exit ?_); try simp only [thenP]) | (with_reducible refine BB.go ?_; simp only [blockP, thenP, reduceIte]) | (with_reducible refine And.intro (okLog_c (by simp [footOf, guardSlot, slotsOf, idsRead, looks, idsOf, idsOf1, idsWritten, colF]; kernel_rfl)) ?_))
    refine RB.go (by omega) (fun _ _ => rfl) fun rc hrc q => ?_
    have e0 : ¬ n = n + 1 + 1 + 1 + 1 + 1 + 1 + 1 + 1 := by omega
    repeat (first | (with_reducible first | refine AWi.seqK fun _ => ?_ | refine AWi.blockK fun _ => ?_ | refine KI.go ?_) | ((first | refine AWi.region tabOk ?_ | refine AWi.condK fun _ _ => ?_ | refine AWi.draws tabOk rfl (by kernel_rfl) (by kernel_rfl) ?_); simp [-getElem?_pos, z0, z1, z2, h2, e0]) | ((first | refine AWi.ret ?_ | refine AWi.skip ?_ | refine AWi.exit ?_); try simp only [thenP]) | (with_reducible refine BB.go ?_; simp only [blockP, thenP, reduceIte]) | (with_reducible refine And.intro (okLog_c (by simp [footOf, guardSlot, slotsOf, idsRead, looks, idsOf, idsOf1, idsWritten, colF]; kernel_rfl)) ?_))
    refine ExecI.callY (Y := B) (xs := [.d (iD b)]) (hby b (List.mem_of_getElem? hb) _ _ (by omega) (fun j hj => ?_)) rfl (by simp [calleeV, evList]) ?_
    · show (if j = n + 1 + 1 + 1 + 1 + 1 + 1 + 1 + 1 then rc else m2 j) = m j
      rw [if_neg (by omega)]
      exact h1 j hj
    rintro y n3 m3 ⟨k1, k2, rfl⟩
    have k3 : ∀ j, j < n2 → ¬ j = n + 1 + 1 + 1 + 1 + 1 + 1 + 1 + 1 → m3 j = m2 j := fun j j1 j2 => (k2 j (by omega)).trans (if_neg j2)
    have f3 := (k3 _ (by omega) (by omega)).trans h3
    have f4 := (k3 _ (by omega) (by omega)).trans h4
    have f5 := (k3 _ (by omega) (by omega)).trans h5
    have f0 := (k3 _ (by omega) (by omega)).trans h2
    have f1 : ∀ j, j < n → m3 j = m j := fun j hj => (k3 j (by omega) (by omega)).trans (h1 j hj)
    have ke : ∀ j, n + 1 + 1 + 1 + 1 + 1 + 1 + 1 + 1 ≤ j → j < n2 + 1 → m3 j = setMem m2 (n + 1 + 1 + 1 + 1 + 1 + 1 + 1 + 1) rc j := fun j _ j2 => k2 j (by omega)
    simp only [] at f3 f4 f5
    have u1 : ¬ n + 1 = n := by omega
    have u2 : ¬ n + 1 + 1 = n := by omega
    simp [-getElem?_pos, z0, z1, z2]
    cases lf
    · repeat (first | (with_reducible first | refine AWi.seqK fun _ => ?_ | refine AWi.blockK fun _ => ?_ | refine KI.go ?_) | ((first | refine AWi.region tabOk ?_ | refine AWi.condK fun _ _ => ?_ | refine AWi.draws tabOk rfl (by kernel_rfl) (by kernel_rfl) ?_); simp [-getElem?_pos, z0, z1, z2, f3, f4, f5, u1, u2]) | ((first | refine AWi.ret ?_ | refine AWi.skip ?_ | refine AWi.exit ?_); try simp only [thenP]) | (with_reducible refine BB.go ?_; simp only [blockP, thenP, reduceIte]) | (with_reducible refine And.intro (okLog_c (by simp [footOf, guardSlot, slotsOf, idsRead, looks, idsOf, idsOf1, idsWritten, colF]; kernel_rfl)) ?_))
      refine RE.normal (by omega) ?_ ?_
      · intro j j1 j2
        simp [show ¬ j = n + 1 + 1 + 1 by omega, show ¬ j = n + 1 + 1 + 1 + 1 by omega, show ¬ j = n + 1 + 1 + 1 + 1 + 1 by omega]
        exact ke j j1 j2
      · rw [hs, show leastStep cost (lb, lc, false) b = (b, cost b, true) by simp [leastStep]]
        refine ⟨fun j hj => ?_, ?_, ?_, ?_, ?_⟩
        · simp [show ¬ j = n + 1 + 1 + 1 by omega, show ¬ j = n + 1 + 1 + 1 + 1 by omega, show ¬ j = n + 1 + 1 + 1 + 1 + 1 by omega]
          exact f1 j hj
        · simp [show ¬ n = n + 1 + 1 + 1 by omega, show ¬ n = n + 1 + 1 + 1 + 1 by omega, show ¬ n = n + 1 + 1 + 1 + 1 + 1 by omega, f0]
        · simp [u1, u2]
        · simp [u1, u2]
        · simp [u1, u2, bD]
    · by_cases hlt : cost b < lc
      · repeat (first | (with_reducible first | refine AWi.seqK fun _ => ?_ | refine AWi.blockK fun _ => ?_ | refine KI.go ?_) | ((first | refine AWi.region tabOk ?_ | refine AWi.condK fun _ _ => ?_ | refine AWi.draws tabOk rfl (by kernel_rfl) (by kernel_rfl) ?_); simp [-getElem?_pos, z0, z1, z2, f3, f4, f5, hlt, u1, u2]) | ((first | refine AWi.ret ?_ | refine AWi.skip ?_ | refine AWi.exit ?_); try simp only [thenP]) | (with_reducible refine BB.go ?_; simp only [blockP, thenP, reduceIte]) | (with_reducible refine And.intro (okLog_c (by simp [footOf, guardSlot, slotsOf, idsRead, looks, idsOf, idsOf1, idsWritten, colF]; kernel_rfl)) ?_))
        refine RE.normal (by omega) ?_ ?_
        · intro j j1 j2
          simp [show ¬ j = n + 1 + 1 + 1 by omega, show ¬ j = n + 1 + 1 + 1 + 1 by omega, show ¬ j = n + 1 + 1 + 1 + 1 + 1 by omega]
          exact ke j j1 j2
        · rw [hs, show leastStep cost (lb, lc, true) b = (b, cost b, true) by simp [leastStep, hlt]]
          refine ⟨fun j hj => ?_, ?_, ?_, ?_, ?_⟩
          · simp [show ¬ j = n + 1 + 1 + 1 by omega, show ¬ j = n + 1 + 1 + 1 + 1 by omega, show ¬ j = n + 1 + 1 + 1 + 1 + 1 by omega]
            exact f1 j hj
          · simp [show ¬ n = n + 1 + 1 + 1 by omega, show ¬ n = n + 1 + 1 + 1 + 1 by omega, show ¬ n = n + 1 + 1 + 1 + 1 + 1 by omega, f0]
          · simp [u1, u2]
          · simp [u1, u2]
          · simp [u1, u2, bD]
      · repeat (first | (with_reducible first | refine AWi.seqK fun _ => ?_ | refine AWi.blockK fun _ => ?_ | refine KI.go ?_) | ((first | refine AWi.region tabOk ?_ | refine AWi.condK fun _ _ => ?_ | refine AWi.draws tabOk rfl (by kernel_rfl) (by kernel_rfl) ?_); simp [-getElem?_pos, z0, z1, z2, f3, f4, f5, hlt, u1, u2]) | ((first | refine AWi.ret ?_ | refine AWi.skip ?_ | refine AWi.exit ?_); try simp only [thenP]) | (with_reducible refine BB.go ?_; simp only [blockP, thenP, reduceIte]) | (with_reducible refine And.intro (okLog_c (by simp [footOf, guardSlot, slotsOf, idsRead, looks, idsOf, idsOf1, idsWritten, colF]; kernel_rfl)) ?_))
        refine RE.normal (by omega) ke ?_
        rw [hs, show leastStep cost (lb, lc, true) b = (lb, lc, true) by simp [leastStep, hlt]]
        exact ⟨f1, f0, f3, f4, f5⟩
  · rintro n' m' hn' ⟨h1, h2, h3, h4, h5⟩
    simp only [thenP]
    rw [List.length_map, List.take_length] at h3 h4 h5
    repeat (first | (with_reducible first | refine AWi.seqK fun _ => ?_ | refine AWi.blockK fun _ => ?_ | refine KI.go ?_) | ((first | refine AWi.region tabOk ?_ | refine AWi.condK fun _ _ => ?_ | refine AWi.draws tabOk rfl (by kernel_rfl) (by kernel_rfl) ?_); simp [-getElem?_pos, z0, z1, z2, h3, h5]) | ((first | refine AWi.ret ?_ | refine AWi.skip ?_ | refine AWi.exit ?_); try simp only [thenP]) | (with_reducible refine BB.go ?_; simp only [blockP, thenP, reduceIte]) | (with_reducible refine And.intro (okLog_c (by simp [footOf, guardSlot, slotsOf, idsRead, looks, idsOf, idsOf1, idsWritten, colF]; kernel_rfl)) ?_))
    exact RI.ret rfl ⟨by omega, h1, rfl⟩
  · exact fun _ _ _ _ h => h.elim
end Go.Proofs.Ytdkneonokbakjaa.Eng

noncomputable section
namespace Go.Proofs.Ytdkneonokbakjaa.Eng
open Go.RowKit
variable {P : Program} {T : Tab} {r : Option Nat} {ns n : Nat} {s : St}
theorem map_keys {E : Env} {w : World} {i : MapI} {es : List (List Int × SV × Nat)} {ents : Array MapEntry} (h2 : ents.size = es.length) (h4 : ∀ (j : Nat) q e, es[j]? = some q → ents[j]? = some e → e.key = keyVal i.agg i.kk q.1 ∧ e.born = q.2.2 ∧ Rep E w q.2.1 e.val) : ents.toList.map (·.key) = (es.map (·.1)).map (keyVal i.agg i.kk) := by
  apply List.ext_getElem?
  intro j
  simp only [List.getElem?_map, Array.getElem?_toList]
  by_cases hj : j < es.length
  · rw [List.getElem?_eq_getElem hj, Array.getElem?_eq_getElem (show j < ents.size by omega)]
    simp only [Option.map_some]
    rw [(h4 j _ _ (List.getElem?_eq_getElem hj) (Array.getElem?_eq_getElem (show j < ents.size by omega))).1]
  · rw [List.getElem?_eq_none (by omega), Array.getElem?_eq_none (by omega)]
    rfl
def lookV (i : MapI) (es : List (List Int × SV × Nat)) (l : List Int) (ok : Bool) : SV := match (findK l (es.map (·.1)) 0).bind fun j => es[j]? with
  | some q => if ok then .tup [q.2.1, .d (.val (.bool true))] else q.2.1
  | none => if ok then .tup [i.zero, .d (.val (.bool false))] else i.zero
theorem stepI_lookup {M : MTab} (hM : MTabOk P M) {o : Oper} {x y : Operand} {t : TypeId} {ok : Bool} (ho : o.op = .lookup t x y ok) {i : MapI} (hi : M t = some i) {id clock : Nat} {es : List (List Int × SV × Nat)} {kv : SV} {l : List Int}
    (hx : opd ns s x = some (.mp id)) (hm : s.mem id = some (mapB i es clock)) (hy : opd ns s y = some kv) (hl : keyOf i kv = some l) (hlen : es.all (fun q => q.1.length == i.kk.length) = true) :
    StepI P r ns n s o fun n' s' => n' = n ∧ s' = { slots := setSlot s.slots o.dst (lookV i es l ok), mem := s.mem } := by
  intro W0 R0 B E a w hin h hd K Q hK
  refine oper_in (fun c e => by rw [ho] at e; cases e) ?_
  have H := hM t i hi
  obtain ⟨u, hu⟩ : ∃ u, a.eval x = u := ⟨_, rfl⟩
  have hr := h.opd hx
  rw [hu] at hr
  obtain ⟨e1, e2⟩ := keyOf_spec H.one hl (h.opd hy)
  cases hr with
  | mp _ hdm =>
    have Hb := h.mem id _ hm
    cases Hb with
    | map _ _ _ ents h1 h2 h3 =>
      rw [List.length_map] at h2
      have h4 : ∀ (j : Nat) q e, es[j]? = some q → ents[j]? = some e → e.key = keyVal i.agg i.kk q.1 ∧ e.born = q.2.2 ∧ Rep E w q.2.1 e.val := fun j q e hq he => h3 j (keyVal i.agg i.kk q.1, q.2) e (by rw [List.getElem?_map, hq]; rfl) he
      have hks := map_keys h2 h4
      have hf := H.find w l ents.toList (es.map (·.1)) e2 (fun q hq => by
        obtain ⟨p, hp, rfl⟩ := List.mem_map.1 hq
        simpa using List.all_eq_true.1 hlen p hp) hks
      obtain ⟨z, hz1, hz2⟩ := H.zero
      obtain ⟨v, hv1, hv2⟩ : ∃ v, (Instr.lookup t (.map (some (E.home id).blk)) (a.eval y) ok).run P w = .ok v w ∧ Rep E w (lookV i es l ok) v := by
        unfold lookV
        rw [e1]
        cases hq : (findK l (es.map (·.1)) 0).bind fun j => es[j]? with
        | some q =>
          have hq0 := hq
          rw [Option.bind_eq_some_iff] at hq
          obtain ⟨j, hj, hq⟩ := hq
          have hjl : j < ents.size := by have := (List.getElem?_eq_some_iff.1 hq).1; omega
          have he := h4 j q _ hq (Array.getElem?_eq_getElem hjl)
          rw [hj] at hf
          simp only [Option.bind_some, Array.getElem?_toList, Array.getElem?_eq_getElem hjl, Option.map_some] at hf
          refine ⟨if ok then .tuple #[ents[j].val, .bool true] else ents[j].val, ?_, ?_⟩
          · simp [Instr.lookup, run_underlying H.und, MapKept.run_getObj_map h1, H.check _ w l e2, hf]
          · cases ok with
            | true => exact tup2 he.2.2 (rep_val rfl)
            | false => exact he.2.2
        | none =>
          have hf2 : (Instr.findKey i.key (keyVal i.agg i.kk l) ents.toList).run P w = .ok none w := by
            rw [hf]
            congr 1
            cases hj : findK l (es.map (·.1)) 0 with
            | none => rfl
            | some j =>
              rw [hj] at hq
              simp only [Option.bind_some] at hq
              have : es.length ≤ j := by simpa using hq
              simp only [Option.bind_some, Array.getElem?_toList, Array.getElem?_eq_none (show ents.size ≤ j by omega), Option.map_none]
          refine ⟨if ok then .tuple #[z, .bool false] else z, ?_, ?_⟩
          · simp [Instr.lookup, run_underlying H.und, MapKept.run_getObj_map h1, H.check _ w l e2, hf2, hz1 w]
          · cases ok with
            | true => exact tup2 (hz2 E w) (rep_val rfl)
            | false => exact hz2 E w
      have he : (execOp a.eval o).run P w = .ok (.value v) w := by
        simp [execOp, ho, hu, hv1]
      unfold Oper.wp
      rw [he]
      exact hK n _ E _ _ ⟨rfl, rfl⟩ (h.put hd hv2)
theorem insert_run {M : MTab} (hM : MTabOk P M) {W0 : Fix} {R0 D : Nat → Prop} {E : Env} {a : Act} {w : World} (h : Sim W0 R0 ns D s E a w) {o : Oper} {x y z : Operand} {t : TypeId} (ho : o.op = .mapUpdate t x y z ∨ o.op = .insert t x y z) {i : MapI} (hi : M t = some i) {id clock : Nat} {es : List (List Int × SV × Nat)} {kv vv : SV} {l : List Int}
    (hx : opd ns s x = some (.mp id)) (hm : s.mem id = some (mapB i es clock)) (hy : opd ns s y = some kv) (hl : keyOf i kv = some l) (hlen : es.all (fun q => q.1.length == i.kk.length) = true) (hj : findK l (es.map (·.1)) 0 = none) (hz : opd ns s z = some vv) :
    ∃ w', (execOp a.eval o).run P w = .ok .skip w' ∧ Sim W0 R0 ns D ⟨s.slots, setMem s.mem id (some (mapB i (es ++ [(l, vv, clock)]) (clock + 1)))⟩ E a w' := by
  have H := hM t i hi
  obtain ⟨u, hu⟩ : ∃ u, a.eval x = u := ⟨_, rfl⟩
  have hr := h.opd hx
  rw [hu] at hr
  obtain ⟨e1, e2⟩ := keyOf_spec H.one hl (h.opd hy)
  have hzv := h.opd hz
  cases hr with
  | mp _ hdm =>
    have Hb := h.mem id _ hm
    cases Hb with
    | map _ _ _ ents h1 h2 h3 =>
      rw [List.length_map] at h2
      have h4 : ∀ (j : Nat) q e, es[j]? = some q → ents[j]? = some e → e.key = keyVal i.agg i.kk q.1 ∧ e.born = q.2.2 ∧ Rep E w q.2.1 e.val := fun j q e hq he => h3 j (keyVal i.agg i.kk q.1, q.2) e (by rw [List.getElem?_map, hq]; rfl) he
      have hks := map_keys h2 h4
      have hf := H.find w l ents.toList (es.map (·.1)) e2 (fun q hq => by
        obtain ⟨p, hp, rfl⟩ := List.mem_map.1 hq
        simpa using List.all_eq_true.1 hlen p hp) hks
      rw [hj] at hf
      simp only [Option.bind_none] at hf
      have hset : ∀ (es' : Array MapEntry) (c' : Nat), (setObj (E.home id).blk (.map es' c')).run P w = .ok () (w.putObj (E.home id).blk (.map es' c')) := fun es' c' => MapKept.run_setObj_map _ h1
      have hrun : (execOp a.eval o).run P w = .ok .skip (w.putObj (E.home id).blk (.map (ents.push { key := keyVal i.agg i.kk l, val := a.eval z, born := clock }) (clock + 1))) := by
        rcases ho with ho | ho <;> simp [execOp, ho, hu, e1, Instr.mapUpdate, run_underlying H.und, MapKept.run_getObj_map h1, H.check _ w l e2, hf, hset]
      have hro : ¬ E.ro (E.home id).blk := fun k => by have := (h.frz id _ hm).2 k; cases this
      have hlt : (E.home id).blk < w.heap.size := (Array.getElem?_eq_some_iff.1 h1).1
      have hk : ∀ b, E.ro b → (w.putObj (E.home id).blk (.map (ents.push { key := keyVal i.agg i.kk l, val := a.eval z, born := clock }) (clock + 1))).heap[b]? = w.heap[b]? := fun b hb => World.putObj_heap_other fun e => hro (e ▸ hb)
      have key := h.write (b' := mapB i (es ++ [(l, vv, clock)]) (clock + 1)) hm rfl rfl (grownBy_putObj' w (E.home id).blk (.map (ents.push { key := keyVal i.agg i.kk l, val := a.eval z, born := clock }) (clock + 1))) (.map _ _ _ (ents.push { key := keyVal i.agg i.kk l, val := a.eval z, born := clock }) (World.putObj_heap_same hlt) (by simp [h2]) fun k q e hq he => by
        rw [List.getElem?_map, Option.map_eq_some_iff] at hq
        obtain ⟨p, hp, rfl⟩ := hq
        by_cases hk2 : k < es.length
        · rw [List.getElem?_append_left hk2] at hp
          rw [Array.getElem?_push, if_neg (by omega)] at he
          obtain ⟨a1, a2, a3⟩ := h4 k p e hp he
          exact ⟨a1, a2, a3.keep (Env.le.refl E) hk⟩
        · rw [List.getElem?_append_right (by omega)] at hp
          have hk0 : k = es.length := by
            have := (List.getElem?_eq_some_iff.1 hp).1
            simp at this
            omega
          subst hk0
          simp at hp
          rw [Array.getElem?_push, if_pos h2.symm] at he
          cases hp; cases he
          exact ⟨rfl, rfl, hzv.keep (Env.le.refl E) hk⟩)
      exact ⟨_, hrun, key⟩
theorem stepI_insert {M : MTab} (hM : MTabOk P M) {o : Oper} {x y z : Operand} {t : TypeId} (ho : o.op = .mapUpdate t x y z ∨ o.op = .insert t x y z) {i : MapI} (hi : M t = some i) {id clock : Nat} {es : List (List Int × SV × Nat)} {kv vv : SV} {l : List Int}
    (hx : opd ns s x = some (.mp id)) (hm : s.mem id = some (mapB i es clock)) (hy : opd ns s y = some kv) (hl : keyOf i kv = some l) (hlen : es.all (fun q => q.1.length == i.kk.length) = true) (hj : findK l (es.map (·.1)) 0 = none) (hz : opd ns s z = some vv) :
    StepI P r ns n s o fun n' s' => n' = n ∧ s' = { slots := setSlot s.slots o.dst .und, mem := setMem s.mem id (some (mapB i (es ++ [(l, vv, clock)]) (clock + 1))) } := by
  intro W0 R0 B E a w hin h hd K Q hK
  refine oper_in (fun c e => by rcases ho with ho | ho <;> rw [ho] at e <;> cases e) ?_
  obtain ⟨w', hrun, key⟩ := insert_run hM h ho hi hx hm hy hl hlen hj hz
  unfold Oper.wp
  rw [hrun]
  exact hK n _ E _ _ ⟨rfl, rfl⟩ (key.put hd (Rep.und (E := E) (w := w') undef))
theorem ExecS.lookup {M : MTab} (hM : MTabOk P M) {ops : Array Oper} {o : Oper} {lo : List Oper} {Q : Nat → St → Prop} {x y : Operand} {t : TypeId} {ok : Bool} (ho : o.op = .lookup t x y ok) {i : MapI} {id clock : Nat} {es : List (List Int × SV × Nat)} {kv : SV} {l : List Int} (hg : guardS ops ns s o = some true) (hi : M t = some i)
    (hx : opd ns s x = some (.mp id)) (hm : s.mem id = some (mapB i es clock)) (hy : opd ns s y = some kv) (hl : keyOf i kv = some l) (hlen : es.all (fun q => q.1.length == i.kk.length) = true)
    (h : ExecS P r ns ops n lo { slots := setSlot s.slots o.dst (lookV i es l ok), mem := s.mem } Q) : ExecS P r ns ops n (o :: lo) s Q :=
  ⟨hg, _, stepI_lookup hM ho hi hx hm hy hl hlen, fun n' s' ⟨e1, e2⟩ => by rw [e1, e2]; exact h⟩
theorem ExecS.insert {M : MTab} (hM : MTabOk P M) {ops : Array Oper} {o : Oper} {lo : List Oper} {Q : Nat → St → Prop} {x y z : Operand} {t : TypeId} (ho : o.op = .mapUpdate t x y z ∨ o.op = .insert t x y z) {i : MapI} {id clock : Nat} {es : List (List Int × SV × Nat)} {kv vv : SV} {l : List Int} (hg : guardS ops ns s o = some true) (hi : M t = some i)
    (hx : opd ns s x = some (.mp id)) (hm : s.mem id = some (mapB i es clock)) (hy : opd ns s y = some kv) (hl : keyOf i kv = some l) (hlen : es.all (fun q => q.1.length == i.kk.length) = true) (hj : findK l (es.map (·.1)) 0 = none) (hz : opd ns s z = some vv)
    (h : ExecS P r ns ops n lo { slots := setSlot s.slots o.dst .und, mem := setMem s.mem id (some (mapB i (es ++ [(l, vv, clock)]) (clock + 1))) } Q) : ExecS P r ns ops n (o :: lo) s Q :=
  ⟨hg, _, stepI_insert hM ho hi hx hm hy hl hlen hj hz, fun n' s' ⟨e1, e2⟩ => by rw [e1, e2]; exact h⟩
section
variable {l0 : List Oper} {n0 : Nat} {o : Oper} {l : List Oper} {acc : List FtV} {Q : Nat → St → Prop}
end
end Go.Proofs.Ytdkneonokbakjaa.Eng

noncomputable section
namespace Go.Proofs.Ytdkneonokbakjaa.Eng
open Go.RowKit
variable {P : Program} {T : Tab} {r : Option Nat} {ns n : Nat} {s : St}
theorem ExecS.makeMap {ops : Array Oper} {o : Oper} {l : List Oper} {Q : Nat → St → Prop} {t : TypeId} (i : MapI) (hg : guardS ops ns s o = some true) (ho : o.op = .makeMap t none)
    (h : ExecS P r ns ops (n + 1) l ⟨setSlot s.slots o.dst (.mp n), setMem s.mem n (some (mapB i [] 0))⟩ Q) : ExecS P r ns ops n (o :: l) s Q :=
  ⟨hg, fun n' s' => n' = n + 1 ∧ s' = ⟨setSlot s.slots o.dst (.mp n), setMem s.mem n (some (mapB i [] 0))⟩, fun W0 R0 B E a w hin hs hd K1 Q' hK1 => by
    have hDn : ¬ n < n := Nat.lt_irrefl n
    have hb : Below w.heap.size w (w.alloc (.map #[] 0)) := (Below.refl _ _).alloc (Nat.le_refl _) _
    have hro : ∀ b, E.ro b → (w.alloc (.map #[] 0)).heap[b]? = w.heap[b]? := fun b hb' => hb.block b (hs.rlt b hb')
    have key := hs.new (w' := w.alloc (.map #[] 0)) hDn (mapB i [] 0) ⟨w.heap.size, 0, 0⟩ (hs.kept hb) hro (fun k c hk => hb.block _ (hs.mem k c hk).lt) (.map [] 0 false #[] (heap_alloc_new w _) rfl (by simp)) (hs.fresh (Nat.le_refl _)) rfl (fun hk => Nat.lt_irrefl _ (hs.rlt _ hk)) (fun k c hk e => Nat.lt_irrefl _ (e ▸ (hs.mem k c hk).lt))
    have h4 := key.weak (D' := (· < n + 1)) fun i hi => hi.elim (fun e => by subst e; exact Nat.lt_succ_self _) (fun h => Nat.lt_succ_of_lt h)
    have hr : (execOp a.eval o).run P w = .ok (.value (.map (some w.heap.size))) (w.alloc (.map #[] 0)) := by simp [execOp, ho, Instr.makeMap]
    refine oper_in (fun c e => by rw [ho] at e; cases e) ?_
    unfold Oper.wp
    rw [hr]
    refine hK1 (n + 1) _ (E.add n ⟨w.heap.size, 0, 0⟩) _ (w.alloc (.map #[] 0)) ⟨rfl, rfl⟩ ?_
    refine h4.put hd ?_
    have := Rep.mp (E := E.add n ⟨w.heap.size, 0, 0⟩) (w := w.alloc (.map #[] 0)) n (.inl rfl)
    simpa [Env.add] using this, fun n' s' ⟨e1, e2⟩ => by rw [e1, e2]; exact h⟩
end Go.Proofs.Ytdkneonokbakjaa.Eng

noncomputable section
namespace Go.Proofs.Ytdkneonokbakjaa.Eng
open Go.RowKit
set_option maxRecDepth 100000
set_option maxHeartbeats 8000000
theorem findK_no {l : List Int} {ks : List (List Int)} (h : l ∉ ks) : findK l ks 0 = none := by
  cases hf : findK l ks 0 with
  | none => rfl
  | some j =>
    obtain ⟨b, hb, rfl⟩ := findK_lt ks hf
    exact absurd (List.mem_of_getElem? hb) h
structure MpS (A : Rgs) (S : Nat → Bool) (es : List (List Int × SV × Nat)) (c : Nat) : Prop where
  mem : ∀ q ∈ es, ∃ p : Nat, p < 12 ∧ S p = true ∧ q.1 = [(p : Int)] ∧ q.2.1 = .d (iD (A p).2)
  has : ∀ p, p < 12 → S p = true → ∃ q ∈ es, q.1 = [(p : Int)]
  k : (es.map (·.1)).Nodup
  b : (es.map (·.2.2)).Nodup
  lt : ∀ q ∈ es, q.2.2 < c
theorem MpS.all {A : Rgs} {S : Nat → Bool} {es : List (List Int × SV × Nat)} {c : Nat} (h : MpS A S es c) : es.all (fun q => q.1.length == mi.kk.length) = true := by
  rw [List.all_eq_true]
  intro q hq
  obtain ⟨p, -, -, e, -⟩ := h.mem q hq
  rw [e]
  rfl
theorem MpS.look {A : Rgs} {S : Nat → Bool} {es : List (List Int × SV × Nat)} {c : Nat} (h : MpS A S es c) {p : Nat} (hp : p < 12) : lookV mi es [(p : Int)] true = if S p = true then .tup [.d (iD (A p).2), .d (.val (.bool true))] else .tup [.d (iD 0), .d (.val (.bool false))] := by
  by_cases hs : S p = true
  · rw [if_pos hs]
    obtain ⟨q, hq, e⟩ := h.has p hp hs
    obtain ⟨j, hj, -⟩ := erase_key hq h.k
    rw [e] at hj
    obtain ⟨b, hb, hb2⟩ := findK_lt _ hj
    rw [List.getElem?_map, Option.map_eq_some_iff] at hb
    obtain ⟨q2, hq2, rfl⟩ := hb
    obtain ⟨p2, -, -, e2, e3⟩ := h.mem q2 (List.mem_of_getElem? hq2)
    rw [e2] at hb2
    have : p2 = p := by
      have := List.cons.inj hb2
      omega
    subst this
    unfold lookV
    rw [hj]
    simp only [Option.bind_some, hq2, if_true]
    rw [e3]
  · rw [if_neg hs]
    have hno : [(p : Int)] ∉ es.map (·.1) := fun hm => by
      obtain ⟨q, hq, e⟩ := List.mem_map.1 hm
      obtain ⟨p2, -, h2, e2, -⟩ := h.mem q hq
      rw [e2] at e
      have : p2 = p := by
        have := List.cons.inj e
        omega
      subst this
      exact hs h2
    unfold lookV
    rw [findK_no hno]
    rfl
def nzB (A : Rgs) (p : Nat) : Bool := !(decide ((A p).1 = 0) && decide ((A p).2 = 0))
theorem nzB_iff {A : Rgs} {p : Nat} : nzB A p = true ↔ ¬ ((A p).1 = 0 ∧ (A p).2 = 0) := by simp [nzB, Decidable.imp_iff_not_or]
def begE (A : Rgs) : Nat → List (List Int × SV × Nat)
  | 0 => []
  | k + 1 => if nzB A k = true then begE A k ++ [([(k : Int)], .d (iD (A k).2), (begE A k).length)] else begE A k
theorem beg_mps (A : Rgs) : ∀ k, k ≤ 12 → MpS A (fun p => decide (p < k) && nzB A p) (begE A k) (begE A k).length
  | 0, _ => ⟨fun q hq => (by cases hq), fun p _ h => (by simp at h), List.nodup_nil, List.nodup_nil, fun q hq => (by cases hq)⟩
  | k + 1, hk => by
    have ih := beg_mps A k (by omega)
    by_cases h : nzB A k = true
    · rw [begE, if_pos h]
      refine ⟨fun q hq => ?_, fun p hp hs => ?_, ?_, ?_, fun q hq => ?_⟩
      · rcases List.mem_append.1 hq with hq | hq
        · obtain ⟨p, h1, h2, h3, h4⟩ := ih.mem q hq
          simp only [Bool.and_eq_true, decide_eq_true_eq] at h2
          exact ⟨p, h1, by simp only [Bool.and_eq_true, decide_eq_true_eq]; exact ⟨by omega, h2.2⟩, h3, h4⟩
        · rw [List.mem_singleton] at hq
          subst hq
          exact ⟨k, by omega, by simp [h], rfl, rfl⟩
      · simp only [Bool.and_eq_true, decide_eq_true_eq] at hs
        by_cases e : p = k
        · subst e
          exact ⟨_, List.mem_append_right _ (List.mem_singleton.2 rfl), rfl⟩
        · obtain ⟨q, hq, e2⟩ := ih.has p hp (by simp only [Bool.and_eq_true, decide_eq_true_eq]; exact ⟨by omega, hs.2⟩)
          exact ⟨q, List.mem_append_left _ hq, e2⟩
      · rw [List.map_append, List.nodup_append]
        refine ⟨ih.k, by simp, fun a ha b hb e => ?_⟩
        subst e
        obtain ⟨q, hq, rfl⟩ := List.mem_map.1 ha
        obtain ⟨p, h1, h2, h3, h4⟩ := ih.mem q hq
        simp only [List.map_cons, List.map_nil, List.mem_singleton] at hb
        rw [h3] at hb
        have := List.cons.inj hb
        simp only [Bool.and_eq_true, decide_eq_true_eq] at h2
        omega
      · rw [List.map_append, List.nodup_append]
        refine ⟨ih.b, by simp, fun a ha b hb e => ?_⟩
        subst e
        obtain ⟨q, hq, rfl⟩ := List.mem_map.1 ha
        have := ih.lt q hq
        simp only [List.map_cons, List.map_nil, List.mem_singleton] at hb
        omega
      · rw [List.length_append, List.length_singleton]
        rcases List.mem_append.1 hq with hq | hq
        · have := ih.lt q hq; omega
        · rw [List.mem_singleton] at hq
          subst hq
          simp only
          omega
    · rw [begE, if_neg h]
      refine ⟨fun q hq => ?_, fun p hp hs => ?_, ih.k, ih.b, ih.lt⟩
      · obtain ⟨p, h1, h2, h3, h4⟩ := ih.mem q hq
        simp only [Bool.and_eq_true, decide_eq_true_eq] at h2
        exact ⟨p, h1, by simp only [Bool.and_eq_true, decide_eq_true_eq]; exact ⟨by omega, h2.2⟩, h3, h4⟩
      · simp only [Bool.and_eq_true, decide_eq_true_eq] at hs
        have : p ≠ k := fun e => by subst e; exact h hs.2
        exact ih.has p hp (by simp only [Bool.and_eq_true, decide_eq_true_eq]; exact ⟨by omega, hs.2⟩)
theorem MpS.pass {A : Rgs} {S : Nat → Bool} {es : List (List Int × SV × Nat)} {c : Nat} (h : MpS A S es c) (s : RS) (ps : List Int) (x : Int) : MpS A (fun p => S p && decide ((A p).1 ≤ x)) (passL (whS s ps A) x es) c := by
  have hkeep : ∀ q (p : Nat), p < 12 → q.1 = [(p : Int)] → keepE (whS s ps A) x q = decide ((A p).1 ≤ x) := fun q p hp e => by
    rw [keepE, e]
    simp only [Int.toNat_natCast, wh_lo s ps A hp]
  refine ⟨fun q hq => ?_, fun p hp hs => ?_, nodup_filter_map h.k, nodup_filter_map (f := fun q : List Int × SV × Nat => q.2.2) h.b, fun q hq => h.lt q (List.mem_filter.1 hq).1⟩
  · obtain ⟨h1, h2⟩ := List.mem_filter.1 hq
    obtain ⟨p, h3, h4, h5, h6⟩ := h.mem q h1
    rw [hkeep q p h3 h5] at h2
    exact ⟨p, h3, by simp only [h4, h2, Bool.and_self], h5, h6⟩
  · simp only [Bool.and_eq_true] at hs
    obtain ⟨q, hq, e⟩ := h.has p hp hs.1
    exact ⟨q, List.mem_filter.2 ⟨hq, by rw [hkeep q p hp e]; exact hs.2⟩, e⟩
theorem begins_w {s : RS} {ps : List Int} {A : Rgs} {w : Nat} {m : Mem} (hm : WhAt s ps A w m) (n : Nat) (hw : w < n) :
    CWp Try.prog 78 [.ptr w 0 0] n m fun y n' m' => ∃ id, n ≤ id ∧ id < n' ∧ y = .mp id ∧ m' id = some (mapB mi (begE A 12) (begE A 12).length) ∧ ∀ j, j < n → m' j = m j := by
  have hl := whS_len s ps
  refine cwpK tabOk Try.func78 rfl rfl (show 1 ≤ _ by decide) rfl fun _ => ?_; simp only [Try.ntmps78]
  repeat (first | (with_reducible first | refine AWi.seqK fun _ => ?_ | refine AWi.blockK fun _ => ?_ | refine KI.go ?_) | (refine AWi.condK fun _ _ => ?_; simp [-getElem?_pos, z0, z1, z2, z0]) | ((first | refine AWi.ret ?_ | refine AWi.skip ?_ | refine AWi.exit ?_); try simp only [thenP]) | (with_reducible refine BB.go ?_; simp only [blockP, thenP, reduceIte]))
  refine AWi.region tabOk ?_
  simp [-getElem?_pos, z0, z1, z2]
  with_reducible refine KI.go ?_
  repeat (first | (with_reducible first | refine AWi.seqK fun _ => ?_ | refine AWi.blockK fun _ => ?_ | refine KI.go ?_) | (refine AWi.condK fun _ _ => ?_; simp [-getElem?_pos, z0, z1, z2, z0]) | ((first | refine AWi.ret ?_ | refine AWi.skip ?_ | refine AWi.exit ?_); try simp only [thenP]) | (with_reducible refine BB.go ?_; simp only [blockP, thenP, reduceIte]))
  refine AWi.regionS ?_
  refine ExecS.makeMap mi rfl rfl ?_
  refine ExecS.plain tabOk (out := { res := .mp (n + 1) }) rfl rfl (by simp [-getElem?_pos, z0, z1, z2]) ?_
  simp [putS, ExecS]
  try simp only [thenP]
  have o0 : ¬ w = n + 1 := by omega
  repeat (first | (with_reducible first | refine AWi.seqK fun _ => ?_ | refine AWi.blockK fun _ => ?_ | refine KI.go ?_) | ((first | refine AWi.region tabOk ?_ | refine AWi.condK fun _ _ => ?_); simp [-getElem?_pos, z0, z1, z2, hm, hl, o0]) | ((first | refine AWi.ret ?_ | refine AWi.skip ?_ | refine AWi.exit ?_); try simp only [thenP]) | (with_reducible refine BB.go ?_; simp only [blockP, thenP, reduceIte]))
  refine AWi.loopK (ι := { k : Nat // k ≤ 12 }) (fun k n1 t => n + 1 + 1 ≤ n1 ∧ t.slots 3 = .mp (n + 1) ∧ t.slots 10 = .agg (spS A) ∧ t.slots 11 = .d (iD k.1) ∧ t.mem (n + 1) = some (mapB mi (begE A k.1) (begE A k.1).length) ∧ ∀ j, j < n → t.mem j = m j) (fun k => 12 - k.1) ⟨0, by omega⟩ ?_ ?_
  · exact ⟨by omega, by simp, by simp, by simp, by simp [begE], fun j hj => by dsimp only; (try dsimp only); repeat (first | rw [setMem_lt (by omega)] | rw [putN_lt (by omega)])⟩
  rintro ⟨k, hk⟩ n1 t ⟨r0, t3, t10, t11, tm, tl⟩ kk
  simp only at t11 tm
  have w1 : IntKind.i64.wrap ((k : Int) + 1) = (k : Int) + 1 := wrap64_in (by omega)
  by_cases hk12 : k < 12
  · have hki : (k : Int) < 12 := by omega
    have hat := sp_at A hk12
    have hsl := spS_len A
    have hle : k * 2 + 2 ≤ 24 := by omega
    have hb := beg_mps A k hk
    have hnew : findK [(k : Int)] ((begE A k).map (·.1)) 0 = none := findK_no fun h => by
      obtain ⟨q, hq, e⟩ := List.mem_map.1 h
      obtain ⟨p, -, h2, e2, -⟩ := hb.mem q hq
      rw [e2] at e
      have := List.cons.inj e
      simp only [Bool.and_eq_true, decide_eq_true_eq] at h2
      omega
    by_cases hz : (A k).1 = 0 ∧ (A k).2 = 0
    · have hE : begE A (k + 1) = begE A k := by rw [begE, if_neg (fun h => nzB_iff.1 h hz)]
      obtain ⟨z1, z2⟩ := hz
      rw [z1, z2] at hat
      repeat (first | (with_reducible first | refine AWi.seqK fun _ => ?_ | refine AWi.blockK fun _ => ?_ | refine KI.go ?_) | ((first | refine AWi.region tabOk ?_ | refine AWi.condK fun _ _ => ?_); simp [-getElem?_pos, z0, z1, z2, t3, t10, t11, hki, hat, hsl, hle, w1]) | ((first | refine AWi.ret ?_ | refine AWi.skip ?_ | refine AWi.exit ?_); try simp only [thenP]) | (with_reducible refine BB.go ?_; simp only [blockP, thenP, reduceIte]))
      exact LI.go ⟨k + 1, hk12⟩ ⟨by omega, by simp [t3], by simp [t10], by simp [iD], by simp only [hE]; exact Eq.trans (by (try dsimp only); repeat (first | rw [setMem_lt (by omega)] | rw [putN_lt (by omega)])) tm, fun j hj => Eq.trans (by (try dsimp only); repeat (first | rw [setMem_lt (by omega)] | rw [putN_lt (by omega)])) (tl j hj)⟩ (by simp; omega)
    · have hE : begE A (k + 1) = begE A k ++ [([(k : Int)], .d (iD (A k).2), (begE A k).length)] := by rw [begE, if_pos (nzB_iff.2 hz)]
      have hall := hb.all
      generalize begE A k = es at *
      obtain ⟨⟨x, y⟩, hr⟩ : ∃ r, A k = r := ⟨_, rfl⟩
      rw [hr] at hat hz hE
      simp only at hat hz hE
      have o1 : ¬ n + 1 = n1 := by omega
      repeat (first | (with_reducible first | refine AWi.seqK fun _ => ?_ | refine AWi.blockK fun _ => ?_ | refine KI.go ?_) | (refine AWi.condK fun _ _ => ?_; simp [-getElem?_pos, z0, z1, z2, z0]) | ((first | refine AWi.ret ?_ | refine AWi.skip ?_ | refine AWi.exit ?_); try simp only [thenP]) | (with_reducible refine BB.go ?_; simp only [blockP, thenP, reduceIte]))
      refine AWi.region tabOk ?_
      simp [-getElem?_pos, z0, z1, z2, t3, t10, t11, hki]
      repeat (first | (with_reducible first | refine AWi.seqK fun _ => ?_ | refine AWi.blockK fun _ => ?_ | refine KI.go ?_) | (refine AWi.condK fun _ _ => ?_; simp [-getElem?_pos, z0, z1, z2, hki]) | ((first | refine AWi.ret ?_ | refine AWi.skip ?_ | refine AWi.exit ?_); try simp only [thenP]) | (with_reducible refine BB.go ?_; simp only [blockP, thenP, reduceIte]))
      refine AWi.region tabOk ?_
      simp [-getElem?_pos, z0, z1, z2, t3, t10, t11, hki, hat, hsl, hle]
      repeat (first | (with_reducible first | refine AWi.seqK fun _ => ?_ | refine AWi.blockK fun _ => ?_ | refine KI.go ?_) | (refine AWi.condK fun _ _ => ?_; simp [-getElem?_pos, z0, z1, z2, hki]) | ((first | refine AWi.ret ?_ | refine AWi.skip ?_ | refine AWi.exit ?_); try simp only [thenP]) | (with_reducible refine BB.go ?_; simp only [blockP, thenP, reduceIte]))
      refine AWi.region tabOk ?_
      simp [-getElem?_pos, z0, z1, z2, t3, t10, t11, hz]
      repeat (first | (with_reducible first | refine AWi.seqK fun _ => ?_ | refine AWi.blockK fun _ => ?_ | refine KI.go ?_) | (refine AWi.condK fun _ _ => ?_; simp [-getElem?_pos, z0, z1, z2, hz]) | ((first | refine AWi.ret ?_ | refine AWi.skip ?_ | refine AWi.exit ?_); try simp only [thenP]) | (with_reducible refine BB.go ?_; simp only [blockP, thenP, reduceIte]))
      refine AWi.regionS ?_
      refine ExecS.plain tabOk (out := { res := .mp (n + 1) }) rfl rfl (by simp [-getElem?_pos, z0, z1, z2, t3]) ?_
      refine ExecS.plain tabOk (out := { res := .d (iD k) }) rfl rfl (by simp [-getElem?_pos, z0, z1, z2, putS]) ?_
      refine ExecS.plain tabOk (out := { res := .ptr (n1 + 1 + 1 + 1) 0 1 }) rfl rfl (by simp [-getElem?_pos, z0, z1, z2, putS]) ?_
      refine ExecS.plain tabOk (out := { res := .d (iD y) }) rfl rfl (by simp [-getElem?_pos, z0, z1, z2, putS]) ?_
      have o2 : ¬ n = n1 + 2 := by omega
      refine ExecS.insert mtOk (.inl rfl) (i := mi) (id := n + 1) (clock := es.length) (es := es) (kv := .d (iD (k : Int))) (vv := .d (iD y)) (l := [(k : Int)]) rfl rfl (by simp [-getElem?_pos, z0, z1, z2, putS]) (by simp [-getElem?_pos, z0, z1, z2, putS, tm, o1, o2]) (by simp [-getElem?_pos, z0, z1, z2, putS]) (by simp [keyOf, intsOf, mi]) hall hnew (by simp [-getElem?_pos, z0, z1, z2, putS]) ?_
      simp [putS, ExecS]
      try simp only [thenP]
      repeat (first | (with_reducible first | refine AWi.seqK fun _ => ?_ | refine AWi.blockK fun _ => ?_ | refine KI.go ?_) | ((first | refine AWi.region tabOk ?_ | refine AWi.condK fun _ _ => ?_); simp [-getElem?_pos, z0, z1, z2, t11, w1]) | ((first | refine AWi.ret ?_ | refine AWi.skip ?_ | refine AWi.exit ?_); try simp only [thenP]) | (with_reducible refine BB.go ?_; simp only [blockP, thenP, reduceIte]))
      refine LI.go ⟨k + 1, hk12⟩ ⟨by omega, by simp [t3], by simp [t10], by simp [iD], ?_, fun j hj => Eq.trans (by (try dsimp only); repeat (first | rw [setMem_lt (by omega)] | rw [putN_lt (by omega)])) (tl j hj)⟩ (by simp; omega)
      simp only [hE, hr, List.length_append, List.length_singleton]
      exact if_pos rfl
  · obtain rfl : k = 12 := by omega
    repeat (first | (with_reducible first | refine AWi.seqK fun _ => ?_ | refine AWi.blockK fun _ => ?_ | refine KI.go ?_) | ((first | refine AWi.region tabOk ?_ | refine AWi.condK fun _ _ => ?_); simp [-getElem?_pos, z0, z1, z2, t3, t10, t11]) | ((first | refine AWi.ret ?_ | refine AWi.skip ?_ | refine AWi.exit ?_); try simp only [thenP]) | (with_reducible refine BB.go ?_; simp only [blockP, thenP, reduceIte]))
    refine RI.ret (xs := [.mp (n + 1)]) (by simp [Try.results78, resSlots, resSlot, z0]) ?_
    exact ⟨n + 1, by omega, by omega, rfl, tm, tl⟩
end Go.Proofs.Ytdkneonokbakjaa.Eng

noncomputable section
namespace Go.Proofs.Ytdkneonokbakjaa.Eng
open Go.RowKit
set_option maxRecDepth 100000
set_option maxHeartbeats 8000000
theorem filter_range_at {f : Nat → Bool} {i : Nat} (h : f i = true) : ∀ {n : Nat}, i < n → ((List.range n).filter f)[((List.range i).filter f).length]? = some i
  | n + 1, hi => by
    rw [List.range_succ, List.filter_append]
    by_cases e : i = n
    · subst e
      rw [List.getElem?_append_right (Nat.le_refl _), Nat.sub_self, List.filter_cons, if_pos h]
      rfl
    · have ih := filter_range_at (f := f) h (show i < n by omega)
      rw [List.getElem?_append_left (List.getElem?_eq_some_iff.1 ih).1]
      exact ih
theorem filter_range_succ {f : Nat → Bool} {i : Nat} : ((List.range (i + 1)).filter f).length = ((List.range i).filter f).length + (if f i = true then 1 else 0) := by
  rw [List.range_succ, List.filter_append, List.length_append]
  by_cases h : f i = true <;> simp [h]
def rdyF (A : Rgs) (S : Nat → Bool) (x : Int) (p : Nat) : Bool := S p && decide (x ≤ (A p).2)
def rdyL (A : Rgs) (S : Nat → Bool) (x : Int) (n : Nat) : List Nat := (List.range n).filter (rdyF A S x)
def rdyV (p : Nat) : List SV := [.d (iD (p : Int))]
def rdyK (A : Rgs) (S : Nat → Bool) (x : Int) (id k0 k1 : Nat) (m : Mem) : Prop := (∃ z, m k0 = some (.box 115 [.mp id] z)) ∧ (∃ z, m k1 = some (.box 2 [.d (iD x)] z)) ∧ ∃ es c, MpS A S es c ∧ m id = some (mapB mi es c)
theorem ready1_w {A : Rgs} {S : Nat → Bool} (x : Int) (id k0 k1 : Nat) :
    Iterates Try.prog 86 (fun Y => [Y, .ptr k0 0 0, .ptr k1 0 0]) ((rdyL A S x 12).map rdyV) (rdyK A S x id k0 k1) := by
  intro Y n0 I J hY hI hJ hk hy n m hn h0
  obtain ⟨⟨z0', hz0⟩, ⟨z1', hz1⟩, -⟩ := hk _ _ h0
  have l0 : k0 < n0 := Below'.lt (hI 0) h0 fun m h e => by obtain ⟨z, h1⟩ := (hk _ _ h).1; rw [e] at h1; cases h1
  have l1 : k1 < n0 := Below'.lt (hI 0) h0 fun m h e => by obtain ⟨z, h1⟩ := (hk _ _ h).2.1; rw [e] at h1; cases h1
  have l2 : id < n0 := Below'.lt (hI 0) h0 fun m h e => by obtain ⟨es, c, -, h1⟩ := (hk _ _ h).2.2; rw [e] at h1; cases h1
  refine cwpK tabOk Try.func86 rfl rfl (show 3 ≤ _ by decide) rfl fun _ => ?_; simp only [Try.ntmps86]
  repeat (first | (with_reducible first | refine AWi.seqK fun _ => ?_ | refine AWi.blockK fun _ => ?_ | refine KI.go ?_) | ((first | refine AWi.region tabOk ?_ | refine AWi.condK fun _ _ => ?_); simp [-getElem?_pos, z0, z1, z2, hz1]) | ((first | refine AWi.ret ?_ | refine AWi.skip ?_ | refine AWi.exit ?_); try simp only [thenP]) | (with_reducible refine BB.go ?_; simp only [blockP, thenP, reduceIte]))
  refine AWi.loopK (fun i n1 t => Keeps n0 n m n1 t.mem ∧ I (rdyL A S x i).length t.mem ∧ t.slots 0 = Y ∧ t.slots 1 = .ptr k0 0 0 ∧ t.slots 2 = .ptr k1 0 0 ∧ t.slots 7 = .d (iD (i : Nat)) ∧ i ≤ 12) (fun i => 12 - i) 0 ?_ ?_
  · exact ⟨Keeps.more (by omega), h0, by simp, by simp, by simp, by simp, by omega⟩
  rintro i n1 t ⟨hkp, hi, t0, t1, t2, t7, hil⟩ kk
  have w1 : IntKind.i64.wrap ((i : Int) + 1) = (i : Int) + 1 := wrap64_in (by omega)
  obtain ⟨⟨za, ha⟩, ⟨zb, hb⟩, es, c, hms, hmp⟩ := hk _ _ hi
  have hn1 : n0 ≤ n1 := Nat.le_trans hn hkp.1
  by_cases hlt : i < 12
  · have hii : (i : Int) < 12 := by omega
    have hlk := hms.look hlt
    have hall := hms.all
    have hlen := filter_range_succ (f := rdyF A S x) (i := i)
    repeat (first | (with_reducible first | refine AWi.seqK fun _ => ?_ | refine AWi.blockK fun _ => ?_ | refine KI.go ?_) | (refine AWi.condK fun _ _ => ?_; simp [-getElem?_pos, z0, z1, z2, z0]) | ((first | refine AWi.ret ?_ | refine AWi.skip ?_ | refine AWi.exit ?_); try simp only [thenP]) | (with_reducible refine BB.go ?_; simp only [blockP, thenP, reduceIte]))
    refine AWi.region tabOk ?_
    simp [-getElem?_pos, z0, z1, z2, t7, hii]
    repeat (first | (with_reducible first | refine AWi.seqK fun _ => ?_ | refine AWi.blockK fun _ => ?_ | refine KI.go ?_) | (refine AWi.condK fun _ _ => ?_; simp [-getElem?_pos, z0, z1, z2, hii]) | ((first | refine AWi.ret ?_ | refine AWi.skip ?_ | refine AWi.exit ?_); try simp only [thenP]) | (with_reducible refine BB.go ?_; simp only [blockP, thenP, reduceIte]))
    refine AWi.region tabOk ?_
    simp [-getElem?_pos, z0, z1, z2, t7, hii]
    repeat (first | (with_reducible first | refine AWi.seqK fun _ => ?_ | refine AWi.blockK fun _ => ?_ | refine KI.go ?_) | (refine AWi.condK fun _ _ => ?_; simp [-getElem?_pos, z0, z1, z2, hii]) | ((first | refine AWi.ret ?_ | refine AWi.skip ?_ | refine AWi.exit ?_); try simp only [thenP]) | (with_reducible refine BB.go ?_; simp only [blockP, thenP, reduceIte]))
    refine AWi.regionS ?_
    refine ExecS.plain tabOk (out := { res := .mp id }) rfl rfl (by simp [-getElem?_pos, z0, z1, z2, t1, ha]) ?_
    refine ExecS.plain tabOk (out := { res := .d (iD i) }) rfl rfl (by simp [-getElem?_pos, z0, z1, z2, putS, t7]) ?_
    refine ExecS.lookup mtOk (i := mi) (id := id) (clock := c) (es := es) (kv := .d (iD (i : Int))) (l := [(i : Int)]) rfl rfl rfl (by simp [-getElem?_pos, z0, z1, z2, putS]) (by simp [-getElem?_pos, z0, z1, z2, putS, hmp]) (by simp [-getElem?_pos, z0, z1, z2, putS]) (by simp [keyOf, intsOf, mi]) hall ?_
    by_cases hs : S i = true
    · rw [if_pos hs] at hlk
      rw [hlk]
      refine ExecS.plain tabOk (out := { res := .tup [.d (iD (A i).2), .d (.val (.bool true))] }) rfl rfl (by simp [-getElem?_pos, z0, z1, z2, putS]) ?_
      refine ExecS.plain tabOk (out := { res := .d (iD (A i).2) }) rfl rfl (by simp [-getElem?_pos, z0, z1, z2, putS]) ?_
      refine ExecS.plain tabOk (out := { res := .d (.val (.bool true)) }) rfl rfl (by simp [-getElem?_pos, z0, z1, z2, putS]) ?_
      refine ExecS.plain tabOk (out := { res := .d (iD (A i).2) }) rfl rfl (by simp [-getElem?_pos, z0, z1, z2, putS]) ?_
      refine ExecS.plain tabOk (out := { res := .d (.val (.bool true)) }) rfl rfl (by simp [-getElem?_pos, z0, z1, z2, putS]) ?_
      simp [putS, ExecS]
      try simp only [thenP]
      by_cases hx : x ≤ (A i).2
      · have hf : rdyF A S x i = true := by rw [rdyF, hs, decide_eq_true hx]; rfl
        rw [if_pos hf] at hlen
        have hget : ((rdyL A S x 12).map rdyV)[(rdyL A S x i).length]? = some [.d (iD (i : Int))] := by
          rw [List.getElem?_map, rdyL, rdyL, filter_range_at hf hlt]
          rfl
        repeat (first | (with_reducible first | refine AWi.seqK fun _ => ?_ | refine AWi.blockK fun _ => ?_ | refine KI.go ?_) | ((first | refine AWi.region tabOk ?_ | refine AWi.condK fun _ _ => ?_); simp [-getElem?_pos, z0, z1, z2, t0, t2, t7, hb, hx]) | ((first | refine AWi.ret ?_ | refine AWi.skip ?_ | refine AWi.exit ?_); try simp only [thenP]) | (with_reducible refine BB.go ?_; simp only [blockP, thenP, reduceIte]))
        refine ExecI.callY (Y := Y) (xs := [.d (iD (i : Int))]) (hy _ _ _ _ hget (by omega) (hI _ _ _ (fun j hj => by (try dsimp only); repeat (first | rw [setMem_lt (by omega)] | rw [putN_lt (by omega)])) hi)) (by simp [-getElem?_pos, z0, z1, z2]) (by simp [calleeV, evList]) ?_
        rintro y n' m' ⟨hk2, ⟨rfl, h⟩ | ⟨rfl, h⟩⟩
        · simp [-getElem?_pos, z0, z1, z2]
          repeat (first | (with_reducible first | refine AWi.seqK fun _ => ?_ | refine AWi.blockK fun _ => ?_ | refine KI.go ?_) | ((first | refine AWi.region tabOk ?_ | refine AWi.condK fun _ _ => ?_); simp [-getElem?_pos, z0, z1, z2, t7, w1]) | ((first | refine AWi.ret ?_ | refine AWi.skip ?_ | refine AWi.exit ?_); try simp only [thenP]) | (with_reducible refine BB.go ?_; simp only [blockP, thenP, reduceIte]))
          exact LI.go (i + 1) ⟨(hkp.trans ⟨by omega, fun j h1 h2 => by (try dsimp only); repeat (first | rw [setMem_lt (by omega)] | rw [putN_lt (by omega)])⟩).trans (hk2.trans (Keeps.more (by omega))), by rw [rdyL, hlen]; exact h, by simp [t0], by simp [t1], by simp [t2], by simp [iD], hlt⟩ (by omega)
        · simp [-getElem?_pos, z0, z1, z2]
          repeat (first | (with_reducible first | refine AWi.seqK fun _ => ?_ | refine AWi.blockK fun _ => ?_ | refine KI.go ?_) | ((first | refine AWi.region tabOk ?_ | refine AWi.condK fun _ _ => ?_); simp [-getElem?_pos, z0, z1, z2, z0]) | ((first | refine AWi.ret ?_ | refine AWi.skip ?_ | refine AWi.exit ?_); try simp only [thenP]) | (with_reducible refine BB.go ?_; simp only [blockP, thenP, reduceIte]))
          exact RI.ret rfl ⟨(hkp.trans ⟨by omega, fun j h1 h2 => by (try dsimp only); repeat (first | rw [setMem_lt (by omega)] | rw [putN_lt (by omega)])⟩).trans (hk2.trans (Keeps.more (by omega))), .inr h⟩
      · have hf : rdyF A S x i = false := by rw [rdyF, hs, decide_eq_false hx]; rfl
        rw [if_neg (by rw [hf]; decide)] at hlen
        repeat (first | (with_reducible first | refine AWi.seqK fun _ => ?_ | refine AWi.blockK fun _ => ?_ | refine KI.go ?_) | ((first | refine AWi.region tabOk ?_ | refine AWi.condK fun _ _ => ?_); simp [-getElem?_pos, z0, z1, z2, t0, t2, t7, hb, hx, w1]) | ((first | refine AWi.ret ?_ | refine AWi.skip ?_ | refine AWi.exit ?_); try simp only [thenP]) | (with_reducible refine BB.go ?_; simp only [blockP, thenP, reduceIte]))
        exact LI.go (i + 1) ⟨hkp.trans (Keeps.more (by omega)), by rw [rdyL, hlen]; exact hi, by simp [t0], by simp [t1], by simp [t2], by simp [iD], hlt⟩ (by omega)
    · rw [if_neg hs] at hlk
      rw [hlk]
      have hf : rdyF A S x i = false := by rw [rdyF, eq_false_of_ne_true hs]; rfl
      rw [if_neg (by rw [hf]; decide)] at hlen
      refine ExecS.plain tabOk (out := { res := .tup [.d (iD 0), .d (.val (.bool false))] }) rfl rfl (by simp [-getElem?_pos, z0, z1, z2, putS]) ?_
      refine ExecS.plain tabOk (out := { res := .d (iD 0) }) rfl rfl (by simp [-getElem?_pos, z0, z1, z2, putS]) ?_
      refine ExecS.plain tabOk (out := { res := .d (.val (.bool false)) }) rfl rfl (by simp [-getElem?_pos, z0, z1, z2, putS]) ?_
      refine ExecS.plain tabOk (out := { res := .d (iD 0) }) rfl rfl (by simp [-getElem?_pos, z0, z1, z2, putS]) ?_
      refine ExecS.plain tabOk (out := { res := .d (.val (.bool false)) }) rfl rfl (by simp [-getElem?_pos, z0, z1, z2, putS]) ?_
      simp [putS, ExecS]
      try simp only [thenP]
      repeat (first | (with_reducible first | refine AWi.seqK fun _ => ?_ | refine AWi.blockK fun _ => ?_ | refine KI.go ?_) | ((first | refine AWi.region tabOk ?_ | refine AWi.condK fun _ _ => ?_); simp [-getElem?_pos, z0, z1, z2, t0, t2, t7, hb, w1]) | ((first | refine AWi.ret ?_ | refine AWi.skip ?_ | refine AWi.exit ?_); try simp only [thenP]) | (with_reducible refine BB.go ?_; simp only [blockP, thenP, reduceIte]))
      exact LI.go (i + 1) ⟨hkp.trans (Keeps.more (by omega)), by rw [rdyL, hlen]; exact hi, by simp [t0], by simp [t1], by simp [t2], by simp [iD], hlt⟩ (by omega)
  · obtain rfl : i = 12 := by omega
    repeat (first | (with_reducible first | refine AWi.seqK fun _ => ?_ | refine AWi.blockK fun _ => ?_ | refine KI.go ?_) | ((first | refine AWi.region tabOk ?_ | refine AWi.condK fun _ _ => ?_); simp [-getElem?_pos, z0, z1, z2, t7]) | ((first | refine AWi.ret ?_ | refine AWi.skip ?_ | refine AWi.exit ?_); try simp only [thenP]) | (with_reducible refine BB.go ?_; simp only [blockP, thenP, reduceIte]))
    exact RI.normal rfl ⟨hkp.trans (Keeps.more (by omega)), .inl (by rw [List.length_map]; exact hi)⟩
end Go.Proofs.Ytdkneonokbakjaa.Eng

noncomputable section
namespace Go.Proofs.Ytdkneonokbakjaa.Eng
open Go.RowKit
set_option maxRecDepth 100000
set_option maxHeartbeats 8000000
theorem mixedM : Try.prog.follows .mixedOrders = true := by kernel_rfl
abbrev readyF (n : Nat) : SV := .fn 86 [] [.ptr n 0 0, .ptr (n + 1) 0 0]
abbrev readyM (m : Mem) (id : Nat) (x : Int) (n : Nat) : Mem := setMem (setMem m n (some (.box 115 [.mp id] false))) (n + 1) (some (.box 2 [.d (iD x)] false))
theorem ready_n {A : Rgs} {S : Nat → Bool} {es : List (List Int × SV × Nat)} {c id : Nat} {m : Mem} (hm : m id = some (mapB mi es c)) (hs : MpS A S es c) (x : Int) (n : Nat) (hn : id < n) : NCall Try.prog 81 [.mp id, .d (iD x)] (only m [id]) n (n + 1 + 1 + 1 + 1 + 1) (readyF n) (readyM (only m [id]) id x n) := by
  have hsm : (only m [id] id).isSome = true := by simp [only, hm]
  have h0 : ∀ i b, only m [id] i = some b → i = id ∧ b = mapB mi es c := fun i b hb => by
    unfold only at hb
    split at hb
    · rename_i h
      have h := List.mem_singleton.1 h
      subst h
      rw [hm] at hb
      cases hb
      exact ⟨rfl, rfl⟩
    · cases hb
  have hmap : ∀ S : Nat → Prop, OfB S (mapB mi es c) := fun S => .map _ _ _ fun q hq => by
    obtain ⟨p, hp, rfl⟩ := List.mem_map.1 hq
    obtain ⟨k, -, -, -, e⟩ := hs.mem p hp
    simp only
    rw [e]
    exact .d _
  have h : CWp Try.prog 81 [.mp id, .d (iD x)] n (only m [id]) fun y n' m' => readyF n = y ∧ n + 1 + 1 + 1 + 1 + 1 = n' ∧ readyM (only m [id]) id x n = m' := by
    refine cwpK tabOk Try.func81 rfl rfl (show 2 ≤ _ by decide) rfl fun _ => ?_; simp only [Try.ntmps81]
    repeat (first | (with_reducible first | refine AWi.seqK fun _ => ?_ | refine AWi.blockK fun _ => ?_ | refine KI.go ?_) | ((first | refine AWi.region tabOk ?_ | refine AWi.condK fun _ _ => ?_ | refine AWi.draws tabOk rfl (by kernel_rfl) (by kernel_rfl) ?_); simp [-getElem?_pos, z0, z1, z2, z0]) | ((first | refine AWi.ret ?_ | refine AWi.skip ?_ | refine AWi.exit ?_); try simp only [thenP]) | (with_reducible refine BB.go ?_; simp only [blockP, thenP, reduceIte]) | (with_reducible refine And.intro (okLog_c (by simp [footOf, guardSlot, slotsOf, idsRead, looks, idsOf, idsOf1, idsWritten, colF]; kernel_rfl)) ?_))
    exact RI.ret rfl ⟨rfl, rfl, rfl⟩
  refine NCall.of h (fun i b hb => by obtain ⟨rfl, _⟩ := h0 i b hb; exact hn) (fun i b hb => by obtain ⟨_, rfl⟩ := h0 i b hb; exact hmap _) (fun x hx => ?_) (fun i b hb => ?_) ?_
  · simp at hx
    rcases hx with rfl | rfl
    · exact .mp _ hsm
    · exact .d _
  · unfold readyM setMem at hb
    by_cases e2 : i = n + 1
    · rw [if_pos e2] at hb; cases hb
      exact ⟨.inr ⟨by omega, by omega⟩, .box _ _ _ fun c hc => by simp at hc; subst hc; exact .d _⟩
    · rw [if_neg e2] at hb
      by_cases e1 : i = n
      · rw [if_pos e1] at hb; cases hb
        exact ⟨.inr ⟨by omega, by omega⟩, .box _ _ _ fun c hc => by simp at hc; subst hc; exact .mp _ (.inl hsm)⟩
      · rw [if_neg e1] at hb
        obtain ⟨rfl, rfl⟩ := h0 i b hb
        exact ⟨.inl hsm, hmap _⟩
  · refine .fn _ _ _ (fun c hc => by cases hc) fun c hc => ?_
    simp at hc
    rcases hc with rfl | rfl <;> exact .ptr _ _ _ (.inr ⟨by omega, by omega⟩)
def costA (A : Rgs) (b : Int) : Int := (A b.toNat).1
def pickS (A : Rgs) : Option Nat → Int × Int × Bool
  | none => (0, 0, false)
  | some k => ((k : Int), (A k).1, true)
def rdyZ (A : Rgs) (S : Nat → Bool) (x : Int) (n : Nat) : List Int := (rdyL A S x n).map fun (p : Nat) => (p : Int)
theorem least_pick {A : Rgs} {S : Nat → Bool} {x : Int} : ∀ {n : Nat}, (∀ p, p < n → rdyF A S x p = bearB A p x) → leastN (costA A) (rdyZ A S x n) = pickS A (pickR A x n)
  | 0, _ => rfl
  | n + 1, h => by
    have ih := least_pick (A := A) (S := S) (x := x) (n := n) fun p hp => h p (by omega)
    have hn := h n (Nat.lt_succ_self n)
    have e : rdyZ A S x (n + 1) = rdyZ A S x n ++ (if rdyF A S x n = true then [(n : Int)] else []) := by
      rw [rdyZ, rdyL, List.range_succ, List.filter_append, List.map_append]
      by_cases g : rdyF A S x n = true <;> simp [g, rdyZ, rdyL]
    rw [e, pickR]
    by_cases g : rdyF A S x n = true
    · have g2 : bearB A n x = true := hn ▸ g
      rw [if_pos g, leastN, List.foldl_append]
      change List.foldl _ (leastN (costA A) (rdyZ A S x n)) _ = _
      rw [ih]
      simp only [List.foldl_cons, List.foldl_nil]
      cases hp : pickR A x n with
      | none =>
        simp only [pickS, g2, if_true]
        simp [leastStep, costA, pickS]
      | some j =>
        simp only [pickS, g2, true_and]
        by_cases hl : (A n).1 < (A j).1
        · rw [if_pos hl]
          simp [leastStep, costA, pickS, hl]
        · rw [if_neg hl]
          simp [leastStep, costA, pickS, hl]
    · have g2 : ¬ bearB A n x = true := hn ▸ g
      rw [if_neg g, List.append_nil, ih]
      cases hp : pickR A x n with
      | none => simp only [g2]; rfl
      | some j => simp only [g2, false_and]; rfl
def runV (r : Int × Nat) : List SV := [.agg [.d (iD r.1), .d (iD (r.2 : Int))]]
def runsF (n : Nat) : SV := .fn 77 [] [.ptr n 0 0, .ptr (n + 1) 0 0, .ptr (n + 1 + 1) 0 0]
abbrev runsM (m : Mem) (w : Nat) (x down : Int) (n : Nat) : Mem := setMem (setMem (setMem m n (some (.box 76 [.ptr w 0 0] false))) (n + 1) (some (.box 2 [.d (iD x)] false))) (n + 1 + 1) (some (.box 2 [.d (iD down)] false))
theorem runs_w (w : Nat) (x down : Int) (n : Nat) (m : Mem) : CWp Try.prog 61 [.ptr w 0 0, .d (iD x), .d (iD down)] n m fun y n' m' => runsF n = y ∧ n + 1 + 1 + 1 + 1 + 1 + 1 = n' ∧ runsM m w x down n = m' := by
  refine cwpK tabOk Try.func61 rfl rfl (show 3 ≤ _ by decide) rfl fun _ => ?_; simp only [Try.ntmps61]
  repeat (first | (with_reducible first | refine AWi.seqK fun _ => ?_ | refine AWi.blockK fun _ => ?_ | refine KI.go ?_) | ((first | refine AWi.region tabOk ?_ | refine AWi.condK fun _ _ => ?_); simp [-getElem?_pos, z0, z1, z2, z0]) | ((first | refine AWi.ret ?_ | refine AWi.skip ?_ | refine AWi.exit ?_); try simp only [thenP]) | (with_reducible refine BB.go ?_; simp only [blockP, thenP, reduceIte]))
  exact RI.ret rfl ⟨rfl, rfl, rfl⟩
def runsK (s : RS) (ps : List Int) (A : Rgs) (w k0 k1 k2 : Nat) (x down : Int) (m : Mem) : Prop := WhAt s ps A w m ∧ (∃ z, m k0 = some (.box 76 [.ptr w 0 0] z)) ∧ (∃ z, m k1 = some (.box 2 [.d (iD x)] z)) ∧ ∃ z, m k2 = some (.box 2 [.d (iD down)] z)
def MpInv (A : Rgs) (S : Nat → Bool) (x : Int) : Prop := ∀ p, p < 12 → ∀ y, 1 ≤ y → y ≤ x → bearB A p y = true → S p = true
theorem runs1_w {s : RS} {ps : List Int} {A : Rgs} (w k0 k1 k2 : Nat) (x0 down : Int) (hd : 1 ≤ down) (hx0 : x0 ≤ 1000000000) (hlo : ∀ p, p < 12 → -1000000000 ≤ (A p).1) :
    Iterates Try.prog 77 (fun Y => [Y, .ptr k0 0 0, .ptr k1 0 0, .ptr k2 0 0]) ((runsR A 12 x0 down).map runV) (runsK s ps A w k0 k1 k2 x0 down) := by
  intro Y n0 I J hY hI hJ hk hy n m hn h0
  obtain ⟨hw0, ⟨z0', hz0⟩, ⟨z1', hz1⟩, ⟨z2', hz2⟩⟩ := hk _ _ h0
  have lw : w < n0 := Below'.lt (hI 0) h0 fun m h e => by have := (hk _ _ h).1; unfold WhAt at this; rw [e] at this; cases this
  have l0 : k0 < n0 := Below'.lt (hI 0) h0 fun m h e => by obtain ⟨z, h1⟩ := (hk _ _ h).2.1; rw [e] at h1; cases h1
  have l1 : k1 < n0 := Below'.lt (hI 0) h0 fun m h e => by obtain ⟨z, h1⟩ := (hk _ _ h).2.2.1; rw [e] at h1; cases h1
  have l2 : k2 < n0 := Below'.lt (hI 0) h0 fun m h e => by obtain ⟨z, h1⟩ := (hk _ _ h).2.2.2; rw [e] at h1; cases h1
  refine cwpK tabOk Try.func77 rfl rfl (show 4 ≤ _ by decide) rfl fun _ => ?_; simp only [Try.ntmps77]
  repeat (first | (with_reducible first | refine AWi.seqK fun _ => ?_ | refine AWi.blockK fun _ => ?_ | refine KI.go ?_) | ((first | refine AWi.region tabOk ?_ | refine AWi.condK fun _ _ => ?_); simp [-getElem?_pos, z0, z1, z2, hz0]) | ((first | refine AWi.ret ?_ | refine AWi.skip ?_ | refine AWi.exit ?_); try simp only [thenP]) | (with_reducible refine BB.go ?_; simp only [blockP, thenP, reduceIte]))
  refine ExecI.callC (begins_w hw0 _ (by omega)) rfl (by simp [calleeS, evList]) ?_
  rintro y n1 m1 ⟨id, i1, i2, rfl, i3, i4⟩
  have hz1' := (i4 k1 (by omega)).trans hz1
  simp [-getElem?_pos, z0, z1, z2]
  repeat (first | (with_reducible first | refine AWi.seqK fun _ => ?_ | refine AWi.blockK fun _ => ?_ | refine KI.go ?_) | ((first | refine AWi.region tabOk ?_ | refine AWi.condK fun _ _ => ?_); simp [-getElem?_pos, z0, z1, z2, hz1']) | ((first | refine AWi.ret ?_ | refine AWi.skip ?_ | refine AWi.exit ?_); try simp only [thenP]) | (with_reducible refine BB.go ?_; simp only [blockP, thenP, reduceIte]))
  refine AWi.loopK (ι := Int × Nat) (fun p n1 t => Keeps n0 n m n1 t.mem ∧ I p.2 t.mem ∧ t.slots 0 = Y ∧ t.slots 1 = .ptr k0 0 0 ∧ t.slots 2 = .ptr k1 0 0 ∧ t.slots 3 = .ptr k2 0 0 ∧ t.slots 5 = .mp id ∧ t.slots 6 = .d (iD p.1) ∧ id < n1 ∧ p.1 ≤ x0 ∧ (∃ L, runsR A 12 x0 down = L ++ runsR A 12 p.1 down ∧ L.length = p.2) ∧ ∃ S es c, t.mem id = some (mapB mi es c) ∧ MpS A S es c ∧ MpInv A S p.1) (fun p => (p.1 + 1 - down).toNat) (x0, 0) ?_ ?_
  · refine ⟨⟨by omega, fun j j1 j2 => i4 j (by omega)⟩, hI _ _ _ (fun j hj => i4 j (by omega)) h0, by simp, by simp, by simp, by simp, by simp, by simp, by omega, Int.le_refl _, ⟨[], rfl, rfl⟩, _, _, _, i3, beg_mps A 12 (Nat.le_refl _), fun p hp y y1 y2 hb => ?_⟩
    rw [bearB_iff] at hb
    simp only [Bool.and_eq_true, decide_eq_true_eq]
    exact ⟨hp, nzB_iff.2 (by omega)⟩
  rintro ⟨x, i⟩ n2 t ⟨hkp, hi, t0, t1, t2, t3, t5, t6, hid, hxx, ⟨L, hL, hLi⟩, S, es, c, hmp, hms, hinv⟩ kk
  simp only at hi t6 hxx hL hLi hinv
  obtain ⟨hw, ⟨za, ha⟩, ⟨zb, hb⟩, ⟨zc, hc⟩⟩ := hk _ _ hi
  have hn2 : n0 ≤ n2 := Nat.le_trans hn hkp.1
  by_cases hlt : down ≤ x
  · repeat (first | (with_reducible first | refine AWi.seqK fun _ => ?_ | refine AWi.blockK fun _ => ?_ | refine KI.go ?_) | ((first | refine AWi.region tabOk ?_ | refine AWi.condK fun _ _ => ?_); simp [-getElem?_pos, z0, z1, z2, t0, t1, t2, t3, t5, t6, ha, hc, hlt]) | ((first | refine AWi.ret ?_ | refine AWi.skip ?_ | refine AWi.exit ?_); try simp only [thenP]) | (with_reducible refine BB.go ?_; simp only [blockP, thenP, reduceIte]))
    refine ExecI.callC (pass_w (cells := whS s ps A) (f := false) (es := es) (clock := c) hw hmp (by omega) (by omega) (by omega) (fun q hq => by obtain ⟨p, h1, -, h3, -⟩ := hms.mem q hq; exact ⟨p, _, h1, h3, wh_lo s ps A h1⟩) hms.k hms.b hms.lt x) rfl (by simp [calleeS, evList]) ?_
    rintro y n3 m3 ⟨p1, p2, rfl, p3⟩
    simp [-getElem?_pos, z0, z1, z2]
    have hms3 := hms.pass s ps x
    obtain ⟨es3, hes3⟩ : ∃ es3, es3 = passL (whS s ps A) x es := ⟨_, rfl⟩
    obtain ⟨S3, hS3⟩ : ∃ S3 : Nat → Bool, S3 = fun p => S p && decide ((A p).1 ≤ x) := ⟨_, rfl⟩
    rw [← hes3, ← hS3] at hms3
    have hinv3 : MpInv A S3 x := fun p hp y y1 y2 hb => by
      have h1 := hinv p hp y y1 y2 hb
      rw [bearB_iff] at hb
      rw [hS3]
      simp only [h1, Bool.true_and, decide_eq_true_eq]
      omega
    have hrdy : ∀ p, p < 12 → rdyF A S3 x p = bearB A p x := fun p hp => by
      rw [Bool.eq_iff_iff, bearB_iff, rdyF, Bool.and_eq_true, decide_eq_true_eq]
      constructor
      · rintro ⟨h1, h2⟩
        rw [hS3] at h1
        simp only [Bool.and_eq_true, decide_eq_true_eq] at h1
        exact ⟨h1.2, h2⟩
      · rintro ⟨h1, h2⟩
        exact ⟨hinv3 p hp x (by omega) (Int.le_refl _) (bearB_iff.2 ⟨h1, h2⟩), h2⟩
    have hmp3 : m3 id = some (mapB mi es3 c) := by rw [p3 id (by omega), if_pos rfl, hes3]
    have hlow3 : ∀ j, j < n2 → j ≠ id → m3 j = t.mem j := fun j h1 h2 => (p3 j (by omega)).trans (if_neg h2)
    have hlow0 : ∀ j, j < n0 → m3 j = t.mem j := fun j hj => hlow3 j (by omega) (by omega)
    have ha3 := (hlow0 k0 l0).trans ha
    have hw3 : WhAt s ps A w m3 := (hlow0 w lw).trans hw
    repeat (first | (with_reducible first | refine AWi.seqK fun _ => ?_ | refine AWi.blockK fun _ => ?_ | refine KI.go ?_) | ((first | refine AWi.region tabOk ?_ | refine AWi.condK fun _ _ => ?_); simp [-getElem?_pos, z0, z1, z2, z0]) | ((first | refine AWi.ret ?_ | refine AWi.skip ?_ | refine AWi.exit ?_); try simp only [thenP]) | (with_reducible refine BB.go ?_; simp only [blockP, thenP, reduceIte]))
    refine AWi.drawsM mixedM 5 (by kernel_rfl) (by kernel_rfl) (by kernel_rfl) ?_
    simp only [List.take_succ_cons, List.take_zero]
    have o1 : id < n3 := by omega
    have o2 : k0 < n3 := by omega
    repeat (with_reducible refine ExecV.auto tabOk ?_; simp [-getElem?_pos, z0, z1, z2, kindV, isPure, t1, t5, t6, ha3, o1, o2]; try (refine And.intro (OkV_old (by simp; try omega) (by omega) (by simp [AllAcc])) ?_))
    have hrd : readyM (only m3 [id]) id x n3 id = m3 id := by
      show setMem (setMem (only m3 [id]) n3 _) (n3 + 1) _ id = _
      rw [setMem, if_neg (by omega), setMem, if_neg (by omega)]
      simp [only]
    refine ExecV.callP [id] (ready_n hmp3 hms3 x _ o1) (by omega) (fun i hi => by rw [List.mem_singleton] at hi; rw [hi]; exact ⟨by simp [hmp3], hrd⟩) rfl (by simp [calleeS, evList]) (OkV_old (by simp; omega) (by omega) (by simp [AllAcc])) ?_
    have o3 : ¬ (n3 ≤ k0 ∧ k0 < n3 + 1 + 1 + 1 + 1 + 1) := by omega
    repeat (with_reducible refine ExecV.auto tabOk ?_; simp [-getElem?_pos, z0, z1, z2, kindV, isPure, t1, t5, t6, ha3, o1, o2, o3]; try (refine And.intro (OkV_old (by simp; try omega) (by omega) (by simp [AllAcc])) ?_))
    have hit := ready1_w (A := A) (S := S3) x id n3 (n3 + 1)
    rw [show (rdyL A S3 x 12).map rdyV = (rdyZ A S3 x 12).map oneI by simp [rdyZ, rdyV, oneI, Function.comp]] at hit
    obtain ⟨m4, hm4⟩ : ∃ m4, m4 = putN m3 n3 (n3 + 1 + 1 + 1 + 1 + 1) (readyM (only m3 [id]) id x n3) := ⟨_, rfl⟩
    have hlow4 : ∀ j, j < n3 → m4 j = m3 j := fun j hj => by rw [hm4, putN, if_neg (by omega)]
    have hb4 : m4 n3 = some (.box 115 [.mp id] false) := by
      rw [hm4, putN, if_pos (by omega)]
      show setMem (setMem _ n3 _) (n3 + 1) _ n3 = _
      rw [setMem, if_neg (by omega), setMem, if_pos rfl]
    have hc4 : m4 (n3 + 1) = some (.box 2 [.d (iD x)] false) := by
      rw [hm4, putN, if_pos (by omega)]
      exact if_pos rfl
    have hw4 : WhAt s ps A w m4 := (hlow4 w (by omega)).trans hw3
    have hk4 : rdyK A S3 x id n3 (n3 + 1) m4 := ⟨⟨false, hb4⟩, ⟨false, hc4⟩, es3, c, hms3, (hlow4 id o1).trans hmp3⟩
    show ExecV _ _ _ _ _ [] _ _ _ _
    rw [← hm4]
    refine ⟨_, stepI_call (svs := [readyF n3, .fn 68 [.ptr w 0 0] []]) (by simp [calleeS, evList]) (leastBy_w hit (us := []) (vs := [.ptr n3 0 0, .ptr (n3 + 1) 0 0]) (fun Y => rfl) (.fn 68 [.ptr w 0 0] []) ⟨rfl, rfl⟩ (costA A) (n3 + 1 + 1 + 1 + 1 + 1) m4 hk4 (fun m1 m2 hm ⟨⟨a, q1⟩, ⟨b, q2⟩, es', c', q3, q4⟩ => ⟨⟨a, (hm _ (by omega)).trans q1⟩, ⟨b, (hm _ (by omega)).trans q2⟩, es', c', q3, (hm _ (by omega)).trans q4⟩) (fun b hb n' m' hn' hm' => ?_)), ?_⟩
    · obtain ⟨p, hp, rfl⟩ := List.mem_map.1 hb
      have hp12 : p < 12 := List.mem_range.1 (List.mem_filter.1 hp).1
      have hwm : m' w = some (.box 83 (whS s ps A) false) := (hm' w (by omega)).trans hw4
      refine YCall.fn ((least_w hwm (wh_lo s ps A hp12) hp12 n').mono ?_)
      rintro y n'' m'' ⟨u1, u2, rfl, rfl⟩
      exact ⟨u1, fun _ _ => rfl, by simp [costA]⟩
    rintro n5 s5 ⟨y, m5, ⟨q1, q2, rfl⟩, rfl⟩
    rw [least_pick hrdy]
    simp only [restO, List.drop_succ_cons, List.drop_zero, List.map_cons, List.map_nil, shiftO]
    have hlow5 : ∀ j, j < n3 → m5 j = m3 j := fun j hj => (q2 j (by omega)).trans (hlow4 j hj)
    have hmp5 : m5 id = some (mapB mi es3 c) := (hlow5 id o1).trans hmp3
    have hlow50 : ∀ j, j < n0 → m5 j = t.mem j := fun j hj => (hlow5 j (by omega)).trans (hlow0 j hj)
    have hkn := hkp.1
    have hkp5 : ∀ j, n0 ≤ j → j < n → m5 j = m j := fun j j1 j2 => ((hlow5 j (by omega)).trans (hlow3 j (by omega) (by omega))).trans (hkp.2 j j1 j2)
    have hi5 : I i m5 := hI _ _ _ hlow50 hi
    cases hp : pickR A x 12 with
    | none =>
      have hnil : runsR A 12 x down = [] := runs_gap hp
      simp only [pickS]
      repeat (with_reducible refine ExecV.auto tabOk ?_; simp [-getElem?_pos, z0, z1, z2, kindV, isPure, z0]; try (refine And.intro (OkV_old (by simp; try omega) (by omega) (by simp [AllAcc])) ?_))
      unfold ExecV
      simp only [thenP]
      repeat (first | (with_reducible first | refine AWi.seqK fun _ => ?_ | refine AWi.blockK fun _ => ?_ | refine KI.go ?_) | ((first | refine AWi.region tabOk ?_ | refine AWi.condK fun _ _ => ?_); simp [-getElem?_pos, z0, z1, z2, z0]) | ((first | refine AWi.ret ?_ | refine AWi.skip ?_ | refine AWi.exit ?_); try simp only [thenP]) | (with_reducible refine BB.go ?_; simp only [blockP, thenP, reduceIte]))
      exact RI.ret rfl ⟨⟨by omega, hkp5⟩, .inl (by rw [List.length_map, hL, hnil, List.append_nil, hLi]; exact hi5)⟩
    | some k =>
      have pk := pick_some hp
      have hk12 := pk.lt
      have hst := runs_step (down := down) (by omega : ¬ x < down) hp
      have hb1 := pk.at1
      have hb2 := hlo k hk12
      have hget : ((runsR A 12 x0 down).map runV)[i]? = some [.agg [.d (iD x), .d (iD k)]] := by
        rw [List.getElem?_map, hL, ← hLi, List.getElem?_append_right (Nat.le_refl _), Nat.sub_self, hst]
        rfl
      simp only [pickS]
      repeat (with_reducible refine ExecV.auto tabOk ?_; simp [-getElem?_pos, z0, z1, z2, kindV, isPure, z0]; try (refine And.intro (OkV_old (by simp; try omega) (by omega) (by simp [AllAcc])) ?_))
      unfold ExecV
      simp only [thenP]
      repeat (first | (with_reducible first | refine AWi.seqK fun _ => ?_ | refine AWi.blockK fun _ => ?_ | refine KI.go ?_) | ((first | refine AWi.region tabOk ?_ | refine AWi.condK fun _ _ => ?_); simp [-getElem?_pos, z0, z1, z2, t0, t1, t6]) | ((first | refine AWi.ret ?_ | refine AWi.skip ?_ | refine AWi.exit ?_); try simp only [thenP]) | (with_reducible refine BB.go ?_; simp only [blockP, thenP, reduceIte]))
      refine ExecI.callY (Y := Y) (xs := [.agg [.d (iD x), .d (iD k)]]) (hy _ _ _ _ hget (by omega) hi5) (by simp [-getElem?_pos, z0, z1, z2]) (by simp [calleeV, evList]) ?_
      rintro y n6 m6 ⟨hk6, ⟨rfl, h⟩ | ⟨rfl, h⟩⟩
      · have hmp6 := (hk6.2 id (by omega) (by omega)).trans hmp5
        obtain ⟨hw6, ⟨zd, hd6⟩, -, -⟩ := hk _ _ h
        have hw6' : m6 w = some (.box 83 (whS s ps A) false) := hw6
        have w1 : IntKind.i64.wrap ((A k).1 - 1) = (A k).1 - 1 := wrap64_in (by omega)
        have h61 := hk6.1
        simp [-getElem?_pos, z0, z1, z2]
        repeat (first | (with_reducible first | refine AWi.seqK fun _ => ?_ | refine AWi.blockK fun _ => ?_ | refine KI.go ?_) | ((first | refine AWi.region tabOk ?_ | refine AWi.condK fun _ _ => ?_); simp [-getElem?_pos, z0, z1, z2, t1, hd6]) | ((first | refine AWi.ret ?_ | refine AWi.skip ?_ | refine AWi.exit ?_); try simp only [thenP]) | (with_reducible refine BB.go ?_; simp only [blockP, thenP, reduceIte]))
        refine ExecI.callC (least_w hw6' (wh_lo s ps A hk12) hk12 _) rfl (by simp [calleeS, evList]) ?_
        rintro y n7 m7 ⟨u1, u2, rfl, rfl⟩
        simp [-getElem?_pos, z0, z1, z2]
        repeat (first | (with_reducible first | refine AWi.seqK fun _ => ?_ | refine AWi.blockK fun _ => ?_ | refine KI.go ?_) | ((first | refine AWi.region tabOk ?_ | refine AWi.condK fun _ _ => ?_); simp [-getElem?_pos, z0, z1, z2, w1]) | ((first | refine AWi.ret ?_ | refine AWi.skip ?_ | refine AWi.exit ?_); try simp only [thenP]) | (with_reducible refine BB.go ?_; simp only [blockP, thenP, reduceIte]))
        refine LI.go ((A k).1 - 1, i + 1) ⟨⟨by omega, fun j j1 j2 => (hk6.2 j j1 (by omega)).trans (hkp5 j j1 j2)⟩, h, by simp [t0], by simp [t1], by simp [t2], by simp [t3], by simp [t5], by simp [iD, w1], by omega, by simp only; omega, ⟨L ++ [(x, k)], by rw [hL, hst]; simp, by simp [hLi]⟩, S3, es3, c, hmp6, hms3, fun p hp y y1 y2 hb => hinv3 p hp y y1 (by simp only at y2; omega) hb⟩ (by simp only; omega)
      · simp [-getElem?_pos, z0, z1, z2]
        repeat (first | (with_reducible first | refine AWi.seqK fun _ => ?_ | refine AWi.blockK fun _ => ?_ | refine KI.go ?_) | ((first | refine AWi.region tabOk ?_ | refine AWi.condK fun _ _ => ?_); simp [-getElem?_pos, z0, z1, z2, z0]) | ((first | refine AWi.ret ?_ | refine AWi.skip ?_ | refine AWi.exit ?_); try simp only [thenP]) | (with_reducible refine BB.go ?_; simp only [blockP, thenP, reduceIte]))
        have h61 := hk6.1
        exact RI.ret rfl ⟨⟨by omega, fun j j1 j2 => (hk6.2 j j1 (by omega)).trans (hkp5 j j1 j2)⟩, .inr h⟩
  · have hnil : runsR A 12 x down = [] := runs_stop (by omega)
    repeat (first | (with_reducible first | refine AWi.seqK fun _ => ?_ | refine AWi.blockK fun _ => ?_ | refine KI.go ?_) | ((first | refine AWi.region tabOk ?_ | refine AWi.condK fun _ _ => ?_); simp [-getElem?_pos, z0, z1, z2, t3, t6, hc, hlt]) | ((first | refine AWi.ret ?_ | refine AWi.skip ?_ | refine AWi.exit ?_); try simp only [thenP]) | (with_reducible refine BB.go ?_; simp only [blockP, thenP, reduceIte]))
    exact RI.normal rfl ⟨hkp.trans (Keeps.more (by omega)), .inl (by rw [List.length_map, hL, hnil, List.append_nil, hLi]; exact hi)⟩
end Go.Proofs.Ytdkneonokbakjaa.Eng

noncomputable section
namespace Go.Proofs.Ytdkneonokbakjaa.Eng
open Go.RowKit
variable {P : Program} {T : Tab} {Z : ZTab} {Q : QTab} {M : MTab} {K : Known}
def chkV (P : Program) (T : Tab) (Z : ZTab) (Q : QTab) (M : MTab) (K : Known) (fuel : Nat) (f : FuncId) (v : Value) : Bool := match callFn P T (runR P T Z Q M K fuel) f [] 0 .lf with
  | some q => same1 q.y (.d (.val v))
  | none => false
theorem chkV_ok {fuel : Nat} {f : FuncId} {v : Value} (h : chkV P T Z Q M K fuel f v = true) : (callFn P T (runR P T Z Q M K fuel) f [] 0 .lf).map (·.y) = some (.d (.val v)) := by
  unfold chkV at h
  split at h
  · rename_i q hq
    rw [hq, Option.map_some, same1_eq h]
  · cases h
end Go.Proofs.Ytdkneonokbakjaa.Eng

noncomputable section
namespace Go.Proofs.Ytdkneonokbakjaa.Eng
open Go.RowKit
set_option maxRecDepth 100000
def goodE (cells : List SV) (q : List Int × SV × Nat) : Bool := match q.1 with
  | [.ofNat k] => Nat.ble (k + 1) 12 && (match cells[6 + k * 2]? with
    | some (.d (.val (.int .i64 _))) => true
    | _ => false)
  | _ => false
def okEs2 (cells : List SV) (es : List (List Int × SV × Nat)) (clock : Nat) : Bool := es.all (fun q => goodE cells q && Nat.ble (q.2.2 + 1) clock) && decide (es.map (·.1)).Nodup && decide (es.map (·.2.2)).Nodup
def passSum (args : List SV) (n : Nat) (m : Tr CB) : Option Rs := match args with
  | [.ptr wid 0 0, .mp id, .d (.val (.int .i64 len))] => match m.get wid, m.get id with
    | some (.bx none ty N d t f), some (.mp false [.i64] es clock) => match Nat.beq ty 83 && Nat.ble id 10000000 && okEs2 (cellsOf N d t 0) es clock with
      | true => some ⟨.tup [], n + 20 + 60 * es.length, putM m id (some (.mp false [.i64] (passL (cellsOf N d t 0) len es) clock))⟩
      | false => none
    | _, _ => none
  | _ => none
theorem goodE_spec {cells : List SV} {q : List Int × SV × Nat} (h : goodE cells q = true) : ∃ (p : Nat) (lo : Int), p < 12 ∧ q.1 = [(p : Int)] ∧ cells[6 + p * 2]? = some (.d (iD lo)) := by
  unfold goodE at h
  split at h
  · rename_i k hq
    rw [Bool.and_eq_true] at h
    obtain ⟨h1, h2⟩ := h
    split at h2
    · rename_i lo hc
      exact ⟨k, lo, by have := Nat.le_of_ble_eq_true h1; omega, hq, hc⟩
    · cases h2
  · cases h
theorem pass_callable : Callable Try.prog 79 :=
  (pass_w (m := fun j => if j = 0 then some (.box 83 [] false) else if j = 1 then some (mapB mi [] 0) else none) (wid := 0) (id := 1) (clock := 0) (cells := []) (f := false) (es := []) (by simp) (by simp) (by decide) (n := 2) (by decide) (by decide) (by simp) (by simp) (by simp) (by simp) 0).callable
theorem passSum_ok {args : List SV} {n : Nat} {m : Tr CB} {q : Rs} (h : passSum args n m = some q) : Calls2 Try.prog 79 args n m q := by
  unfold passSum at h
  split at h
  · rename_i wid id len
    split at h
    · rename_i ty N d t f es clock h1 h2
      split at h
      · rename_i hc
        cases h
        simp only [Bool.and_eq_true, Nat.beq_eq, okEs2, List.all_eq_true, decide_eq_true_eq] at hc
        obtain ⟨⟨rfl, hid⟩, ⟨hall, hn1⟩, hn2⟩ := hc
        have hm1 : mOf m wid = some (.box 83 (cellsOf N d t 0) f) := mOf_get h1
        have hm2 : mOf m id = some (mapB mi es clock) := mOf_get h2
        have hne : wid ≠ id := fun e => by rw [e, h2] at h1; cases h1
        refine ⟨⟨pass_callable, fun W0 R0 E w vs M hs hr => ?_⟩, by show n ≤ n + 20 + 60 * es.length; omega, Recs.put (lt_deep hid) fun st pe k sl ps x y e => by rw [h2] at e; cases e⟩
        have hlt : ∀ i b, mOf m i = some b → i < n := fun i b hi => M.dom i (M.live i b hi)
        have H := pass_w hm1 hm2 hne (hlt _ _ hm1) (hlt _ _ hm2) (fun q hq => goodE_spec (hall q hq).1) hn1 hn2 (fun q hq => by have := Nat.le_of_ble_eq_true (hall q hq).2; omega) len
        refine (H.calls W0 R0 E w vs M hs hr).mono ?_
        rintro e w' ⟨v, E', n', m', y, rfl, M2, hE, hk, hv, k1, k2, rfl, k4⟩
        have hm : ∀ i b, mOf (putM m id (some (.mp false [.i64] (passL (cellsOf N d t 0) len es) clock))) i = some b → m' i = some b := fun i b hb => by
          rw [mOf_put (lt_deep hid)] at hb
          unfold setMem at hb
          split at hb
          · rename_i e
            subst e
            rw [k4 i (hlt _ _ hm2), if_pos rfl]
            exact hb
          · rename_i e
            rw [k4 i (hlt _ _ hb), if_neg e]
            exact hb
        exact ⟨v, E', _, _, _, rfl, ⟨M2.below, M2.ro0, M2.ro1, M2.rlt, fun i hi => Nat.lt_of_lt_of_le (M2.dom i hi) k2, fun i b hi => M2.live i b (hm i b hi), fun i b hi => M2.mem i b (hm i b hi), fun i b hi => M2.base i b (hm i b hi), fun i b hi => M2.frz i b (hm i b hi), fun i j b c hi hj hne => M2.inj i j b c (hm i b hi) (hm j c hj) hne⟩, hE, hk, hv, rfl, rfl, rfl⟩
      · cases h
    · cases h
  · cases h
def SMS : Sums := fun f => match Nat.beq f 79 with
  | true => some passSum
  | false => none
theorem smsOk : SumsOk Try.prog SMS := fun f g h args n m q hq => by
  unfold SMS at h
  split at h
  · rename_i e
    cases h
    rw [Nat.beq_eq] at e
    subst e
    exact passSum_ok hq
  · cases h
end Go.Proofs.Ytdkneonokbakjaa.Eng

namespace Go.Proofs.Ytdkneonokbakjaa.Eng
open Go.RowKit
set_option maxRecDepth 100000
def ra1 : Ent := ⟨18, [(.agg [(.d (.val (.int .i64 3000))), (.d (.val (.int .i64 1500))), (.d (.val (.int .i64 10))), (.d (.val (.int .i64 540000))), (.d (.val (.int .i64 720000)))]), (.sl 4 0 5 (some 5)), (.d (.val (.int .i64 1)))], 7, (.nd none .lf (.nd none (.nd (some (.bx none 2 5 [(.d (.val (.int .i64 200))), (.d (.val (.int .i64 250))), (.d (.val (.int .i64 260))), (.d (.val (.int .i64 300))), (.d (.val (.int .i64 390)))] .lf false)) .lf .lf) .lf)), ⟨(.tup [(.agg [(.d (.val (.int .i64 2170))), (.d (.val (.int .i64 2870)))]), (.d (.val (.int .i64 0)))]), 46, (.nd none .lf (.nd none (.nd (some (.bx none 2 5 [(.d (.val (.int .i64 200))), (.d (.val (.int .i64 250))), (.d (.val (.int .i64 260))), (.d (.val (.int .i64 300))), (.d (.val (.int .i64 390)))] .lf false)) .lf .lf) .lf))⟩⟩
theorem ra1_ok : Calls2 Try.prog ra1.f ra1.args ra1.n ra1.m ra1.q := chk_ok (fuel := 600) tabOk ztOk qtOk mtOk (known_sums smsOk) noGor mixed (by decide +kernel)
end Go.Proofs.Ytdkneonokbakjaa.Eng

namespace Go.Proofs.Ytdkneonokbakjaa.Eng
open Go.RowKit
set_option maxRecDepth 100000
def ra2 : Ent := ⟨20, [(.agg [(.d (.val (.int .i64 3000))), (.d (.val (.int .i64 1500))), (.d (.val (.int .i64 10))), (.d (.val (.int .i64 540000))), (.d (.val (.int .i64 720000)))]), (.sl 4 0 5 (some 5))], 48, (.nd none .lf (.nd none (.nd (some (.bx none 2 5 [(.d (.val (.int .i64 200))), (.d (.val (.int .i64 250))), (.d (.val (.int .i64 260))), (.d (.val (.int .i64 300))), (.d (.val (.int .i64 390)))] .lf false)) .lf .lf) .lf)), ⟨(.tup [(.d (.val (.int .i64 0))), (.d (.val (.int .i64 5)))]), 143, (.nd none .lf (.nd none (.nd (some (.bx none 2 5 [(.d (.val (.int .i64 200))), (.d (.val (.int .i64 250))), (.d (.val (.int .i64 260))), (.d (.val (.int .i64 300))), (.d (.val (.int .i64 390)))] .lf false)) .lf .lf) .lf))⟩⟩
theorem ra2_ok : Calls2 Try.prog ra2.f ra2.args ra2.n ra2.m ra2.q := chk_ok (fuel := 600) tabOk ztOk qtOk mtOk (known_sums smsOk) noGor mixed (by decide +kernel)
end Go.Proofs.Ytdkneonokbakjaa.Eng

namespace Go.Proofs.Ytdkneonokbakjaa.Eng
open Go.RowKit
set_option maxRecDepth 100000
def ra3 : Ent := ⟨20, [(.agg [(.d (.val (.int .i64 3000))), (.d (.val (.int .i64 1500))), (.d (.val (.int .i64 10))), (.d (.val (.int .i64 540000))), (.d (.val (.int .i64 720000)))]), (.sl 143 0 5 (some 5))], 144, (.nd none (.nd none (.nd none (.nd none (.nd none .lf (.nd none (.nd none (.nd (some (.bx none 2 5 [(.d (.val (.int .i64 200))), (.d (.val (.int .i64 250))), (.d (.val (.int .i64 260))), (.d (.val (.int .i64 300))), (.d (.val (.int .i64 400)))] .lf false)) .lf .lf) .lf) .lf)) .lf) .lf) .lf) .lf), ⟨(.tup [(.d (.val (.int .i64 1809))), (.d (.val (.int .i64 0)))]), 267, (.nd none (.nd none (.nd none (.nd none (.nd none .lf (.nd none (.nd none (.nd (some (.bx none 2 5 [(.d (.val (.int .i64 200))), (.d (.val (.int .i64 250))), (.d (.val (.int .i64 260))), (.d (.val (.int .i64 300))), (.d (.val (.int .i64 400)))] .lf false)) .lf .lf) .lf) .lf)) .lf) .lf) .lf) .lf)⟩⟩
theorem ra3_ok : Calls2 Try.prog ra3.f ra3.args ra3.n ra3.m ra3.q := chk_ok (fuel := 600) tabOk ztOk qtOk mtOk (known_sums smsOk) noGor mixed (by decide +kernel)
end Go.Proofs.Ytdkneonokbakjaa.Eng

namespace Go.Proofs.Ytdkneonokbakjaa.Eng
open Go.RowKit
set_option maxRecDepth 100000
def ra4 : Ent := ⟨28, [(.agg [(.d (.val (.int .i64 3000))), (.d (.val (.int .i64 1500))), (.d (.val (.int .i64 10))), (.d (.val (.int .i64 540000))), (.d (.val (.int .i64 720000)))]), (.sl 4 0 5 (some 5))], 267, (.nd none .lf (.nd none (.nd (some (.bx none 2 5 [(.d (.val (.int .i64 200))), (.d (.val (.int .i64 250))), (.d (.val (.int .i64 260))), (.d (.val (.int .i64 300))), (.d (.val (.int .i64 390)))] .lf false)) .lf .lf) .lf)), ⟨(.tup [(.sl 1509 0 4 (some 4)), (.d (.val (.int .i64 0)))]), 1511, (.nd none (.nd none .lf (.nd none .lf (.nd none (.nd none (.nd none .lf (.nd none .lf (.nd none .lf (.nd none .lf (.nd none (.nd (some (.bx none 59 8 [(.d (.val (.int .i64 0))), (.d (.val (.int .i64 0)))] (.nd (some (.d (.val (.int .i64 3000)))) (.nd (some (.d (.val (.int .i64 0)))) (.nd (some (.d (.val (.int .i64 2)))) (.nd (some (.d (.val (.int .i64 4)))) .lf .lf) .lf) (.nd (some (.d (.val (.int .i64 3)))) .lf .lf)) (.nd (some (.d (.val (.int .i64 2709)))) (.nd (some (.d (.val (.int .i64 2086)))) .lf .lf) (.nd (some (.d (.val (.int .i64 1809)))) .lf .lf))) false)) .lf .lf) .lf))))) .lf) .lf))) (.nd none (.nd (some (.bx none 2 5 [(.d (.val (.int .i64 200))), (.d (.val (.int .i64 250))), (.d (.val (.int .i64 260))), (.d (.val (.int .i64 300))), (.d (.val (.int .i64 390)))] .lf false)) .lf .lf) .lf))⟩⟩
theorem ra4_ok : Calls2 Try.prog ra4.f ra4.args ra4.n ra4.m ra4.q := chk_ok (fuel := 600) tabOk ztOk qtOk mtOk (known_sums smsOk) noGor mixed (by decide +kernel)
end Go.Proofs.Ytdkneonokbakjaa.Eng

namespace Go.Proofs.Ytdkneonokbakjaa.Eng
open Go.RowKit
set_option maxRecDepth 100000
def ra5 : Ent := ⟨24, [(.agg [(.d (.val (.int .i64 3000))), (.d (.val (.int .i64 1500))), (.d (.val (.int .i64 10))), (.d (.val (.int .i64 540000))), (.d (.val (.int .i64 720000)))]), (.sl 4 0 5 (some 5)), (.sl 1509 0 4 (some 4))], 1511, (.nd none (.nd none .lf (.nd none .lf (.nd none (.nd none (.nd none .lf (.nd none .lf (.nd none .lf (.nd none .lf (.nd none (.nd (some (.bx none 59 8 [(.d (.val (.int .i64 0))), (.d (.val (.int .i64 0)))] (.nd (some (.d (.val (.int .i64 3000)))) (.nd (some (.d (.val (.int .i64 0)))) (.nd (some (.d (.val (.int .i64 2)))) (.nd (some (.d (.val (.int .i64 4)))) .lf .lf) .lf) (.nd (some (.d (.val (.int .i64 3)))) .lf .lf)) (.nd (some (.d (.val (.int .i64 2709)))) (.nd (some (.d (.val (.int .i64 2086)))) .lf .lf) (.nd (some (.d (.val (.int .i64 1809)))) .lf .lf))) false)) .lf .lf) .lf))))) .lf) .lf))) (.nd none (.nd (some (.bx none 2 5 [(.d (.val (.int .i64 200))), (.d (.val (.int .i64 250))), (.d (.val (.int .i64 260))), (.d (.val (.int .i64 300))), (.d (.val (.int .i64 390)))] .lf false)) .lf .lf) .lf)), ⟨(.tup [(.agg [(.d (.val (.int .i64 540000))), (.d (.val (.int .i64 709410)))]), (.d (.val (.int .i64 0)))]), 1647, (.nd none (.nd none .lf (.nd none .lf (.nd none (.nd none (.nd none .lf (.nd none .lf (.nd none .lf (.nd none .lf (.nd none (.nd (some (.bx none 59 8 [(.d (.val (.int .i64 0))), (.d (.val (.int .i64 0)))] (.nd (some (.d (.val (.int .i64 3000)))) (.nd (some (.d (.val (.int .i64 0)))) (.nd (some (.d (.val (.int .i64 2)))) (.nd (some (.d (.val (.int .i64 4)))) .lf .lf) .lf) (.nd (some (.d (.val (.int .i64 3)))) .lf .lf)) (.nd (some (.d (.val (.int .i64 2709)))) (.nd (some (.d (.val (.int .i64 2086)))) .lf .lf) (.nd (some (.d (.val (.int .i64 1809)))) .lf .lf))) false)) .lf .lf) .lf))))) .lf) .lf))) (.nd none (.nd (some (.bx none 2 5 [(.d (.val (.int .i64 200))), (.d (.val (.int .i64 250))), (.d (.val (.int .i64 260))), (.d (.val (.int .i64 300))), (.d (.val (.int .i64 390)))] .lf false)) .lf .lf) .lf))⟩⟩
theorem ra5_ok : Calls2 Try.prog ra5.f ra5.args ra5.n ra5.m ra5.q := chk_ok (fuel := 600) tabOk ztOk qtOk mtOk (known_sums smsOk) noGor mixed (by decide +kernel)
end Go.Proofs.Ytdkneonokbakjaa.Eng

namespace Go.Proofs.Ytdkneonokbakjaa.Eng
open Go.RowKit
set_option maxRecDepth 100000
def ra6 : Ent := ⟨26, [(.agg [(.d (.val (.int .i64 3000))), (.d (.val (.int .i64 1500))), (.d (.val (.int .i64 10))), (.d (.val (.int .i64 540000))), (.d (.val (.int .i64 720000)))]), (.sl 4 0 5 (some 5)), (.sl 1657 0 4 (some 4))], 1658, (.nd none (.nd none .lf (.nd none (.nd none .lf (.nd none .lf (.nd none .lf (.nd none .lf (.nd none (.nd none (.nd none .lf (.nd (some (.bx none 59 8 [(.d (.val (.int .i64 3000))), (.d (.val (.int .i64 0))), (.d (.val (.int .i64 2800))), (.d (.val (.int .i64 1))), (.d (.val (.int .i64 2100))), (.d (.val (.int .i64 3))), (.d (.val (.int .i64 1836))), (.d (.val (.int .i64 4)))] .lf false)) .lf .lf)) .lf) .lf))))) .lf)) (.nd none (.nd (some (.bx none 2 5 [(.d (.val (.int .i64 200))), (.d (.val (.int .i64 250))), (.d (.val (.int .i64 260))), (.d (.val (.int .i64 300))), (.d (.val (.int .i64 390)))] .lf false)) .lf .lf) .lf)), ⟨(.d (.val (.int .i64 19))), 1746, (.nd none (.nd none .lf (.nd none (.nd none .lf (.nd none .lf (.nd none .lf (.nd none .lf (.nd none (.nd none (.nd none .lf (.nd (some (.bx none 59 8 [(.d (.val (.int .i64 3000))), (.d (.val (.int .i64 0))), (.d (.val (.int .i64 2800))), (.d (.val (.int .i64 1))), (.d (.val (.int .i64 2100))), (.d (.val (.int .i64 3))), (.d (.val (.int .i64 1836))), (.d (.val (.int .i64 4)))] .lf false)) .lf .lf)) .lf) .lf))))) .lf)) (.nd none (.nd (some (.bx none 2 5 [(.d (.val (.int .i64 200))), (.d (.val (.int .i64 250))), (.d (.val (.int .i64 260))), (.d (.val (.int .i64 300))), (.d (.val (.int .i64 390)))] .lf false)) .lf .lf) .lf))⟩⟩
theorem ra6_ok : Calls2 Try.prog ra6.f ra6.args ra6.n ra6.m ra6.q := chk_ok (fuel := 600) tabOk ztOk qtOk mtOk (known_sums smsOk) noGor mixed (by decide +kernel)
end Go.Proofs.Ytdkneonokbakjaa.Eng

namespace Go.Proofs.Ytdkneonokbakjaa.Eng
open Go.RowKit
set_option maxRecDepth 100000
def ra7 : Ent := ⟨30, [(.agg [(.d (.val (.int .i64 3000))), (.d (.val (.int .i64 1500))), (.d (.val (.int .i64 10))), (.d (.val (.int .i64 540000))), (.d (.val (.int .i64 720000)))]), (.sl 4 0 5 (some 5))], 1746, (.nd none .lf (.nd none (.nd (some (.bx none 2 5 [(.d (.val (.int .i64 200))), (.d (.val (.int .i64 250))), (.d (.val (.int .i64 260))), (.d (.val (.int .i64 300))), (.d (.val (.int .i64 390)))] .lf false)) .lf .lf) .lf)), ⟨(.tup [(.sl 3007 0 4 (some 4)), (.d (.val (.int .i64 0)))]), 3009, (.nd none (.nd none (.nd none (.nd none (.nd none (.nd none (.nd none .lf (.nd none .lf (.nd none .lf (.nd none .lf (.nd none (.nd (some (.bx none 2 4 [(.d (.val (.int .i64 0)))] (.nd (some (.d (.val (.int .i64 3000)))) (.nd (some (.d (.val (.int .i64 2709)))) (.nd (some (.d (.val (.int .i64 1809)))) .lf .lf) .lf) (.nd (some (.d (.val (.int .i64 2086)))) .lf .lf)) false)) .lf .lf) .lf))))) .lf) .lf) .lf) .lf) .lf) (.nd none (.nd (some (.bx none 2 5 [(.d (.val (.int .i64 200))), (.d (.val (.int .i64 250))), (.d (.val (.int .i64 260))), (.d (.val (.int .i64 300))), (.d (.val (.int .i64 390)))] .lf false)) .lf .lf) .lf))⟩⟩
theorem ra7_ok : Calls2 Try.prog ra7.f ra7.args ra7.n ra7.m ra7.q := chk_ok (fuel := 600) tabOk ztOk qtOk mtOk (known_sums smsOk) noGor mixed (by decide +kernel)
end Go.Proofs.Ytdkneonokbakjaa.Eng

namespace Go.Proofs.Ytdkneonokbakjaa.Eng
open Go.RowKit
set_option maxRecDepth 100000
def ra8 : Ent := ⟨34, [(.agg [(.d (.val (.int .i64 3000))), (.d (.val (.int .i64 1500))), (.d (.val (.int .i64 10))), (.d (.val (.int .i64 540000))), (.d (.val (.int .i64 720000)))]), (.sl 4 0 5 (some 5)), (.sl 3009 0 3 (some 3))], 3010, (.nd none (.nd none .lf (.nd none (.nd none (.nd none (.nd none (.nd none .lf (.nd none .lf (.nd none .lf (.nd none .lf (.nd none (.nd (some (.bx none 2 3 [(.d (.val (.int .i64 3000))), (.d (.val (.int .i64 2800))), (.d (.val (.int .i64 2000)))] .lf false)) .lf .lf) .lf))))) .lf) .lf) .lf) .lf)) (.nd none (.nd (some (.bx none 2 5 [(.d (.val (.int .i64 200))), (.d (.val (.int .i64 250))), (.d (.val (.int .i64 260))), (.d (.val (.int .i64 300))), (.d (.val (.int .i64 390)))] .lf false)) .lf .lf) .lf)), ⟨(.d (.val (.int .i64 14))), 3061, (.nd none (.nd none .lf (.nd none (.nd none (.nd none (.nd none (.nd none .lf (.nd none .lf (.nd none .lf (.nd none .lf (.nd none (.nd (some (.bx none 2 3 [(.d (.val (.int .i64 3000))), (.d (.val (.int .i64 2800))), (.d (.val (.int .i64 2000)))] .lf false)) .lf .lf) .lf))))) .lf) .lf) .lf) .lf)) (.nd none (.nd (some (.bx none 2 5 [(.d (.val (.int .i64 200))), (.d (.val (.int .i64 250))), (.d (.val (.int .i64 260))), (.d (.val (.int .i64 300))), (.d (.val (.int .i64 390)))] .lf false)) .lf .lf) .lf))⟩⟩
theorem ra8_ok : Calls2 Try.prog ra8.f ra8.args ra8.n ra8.m ra8.q := chk_ok (fuel := 600) tabOk ztOk qtOk mtOk (known_sums smsOk) noGor mixed (by decide +kernel)
end Go.Proofs.Ytdkneonokbakjaa.Eng

namespace Go.Proofs.Ytdkneonokbakjaa.Eng
open Go.RowKit
set_option maxRecDepth 100000
def ra9 : Ent := ⟨36, [(.agg [(.d (.val (.int .i64 3000))), (.d (.val (.int .i64 1500))), (.d (.val (.int .i64 10))), (.d (.val (.int .i64 540000))), (.d (.val (.int .i64 720000)))]), (.sl 4 0 5 (some 5)), (.d (.val (.int .i64 2)))], 3061, (.nd none .lf (.nd none (.nd (some (.bx none 2 5 [(.d (.val (.int .i64 200))), (.d (.val (.int .i64 250))), (.d (.val (.int .i64 260))), (.d (.val (.int .i64 300))), (.d (.val (.int .i64 390)))] .lf false)) .lf .lf) .lf)), ⟨(.tup [(.d (.val (.int .i64 2087))), (.d (.val (.int .i64 0)))]), 4083, (.nd none .lf (.nd none (.nd (some (.bx none 2 5 [(.d (.val (.int .i64 200))), (.d (.val (.int .i64 250))), (.d (.val (.int .i64 260))), (.d (.val (.int .i64 300))), (.d (.val (.int .i64 390)))] .lf false)) .lf .lf) .lf))⟩⟩
theorem ra9_ok : Calls2 Try.prog ra9.f ra9.args ra9.n ra9.m ra9.q := chk_ok (fuel := 600) tabOk ztOk qtOk mtOk (known_sums smsOk) noGor mixed (by decide +kernel)
end Go.Proofs.Ytdkneonokbakjaa.Eng

namespace Go.Proofs.Ytdkneonokbakjaa.Eng
open Go.RowKit
set_option maxRecDepth 100000
def ra10 : Ent := ⟨38, [(.agg [(.d (.val (.int .i64 3000))), (.d (.val (.int .i64 1500))), (.d (.val (.int .i64 10))), (.d (.val (.int .i64 540000))), (.d (.val (.int .i64 720000)))]), (.sl 4 0 5 (some 5))], 4083, (.nd none .lf (.nd none (.nd (some (.bx none 2 5 [(.d (.val (.int .i64 200))), (.d (.val (.int .i64 250))), (.d (.val (.int .i64 260))), (.d (.val (.int .i64 300))), (.d (.val (.int .i64 390)))] .lf false)) .lf .lf) .lf)), ⟨(.tup [(.sl 14333 0 5 (some 5)), (.d (.val (.int .i64 0)))]), 14335, (.nd none (.nd none .lf (.nd none .lf (.nd none .lf (.nd none .lf (.nd none .lf (.nd none .lf (.nd none .lf (.nd none .lf (.nd none .lf (.nd none .lf (.nd none (.nd none .lf (.nd (some (.bx none 3 5 [(.d (.val (.int .i64 0)))] (.nd (some (.d (.val (.int .i64 2)))) (.nd (some (.d (.val (.int .i64 1)))) (.nd (some (.d (.val (.int .i64 2)))) .lf .lf) .lf) (.nd (some (.d (.val (.int .i64 1)))) (.nd (some (.d (.val (.int .i64 2)))) .lf .lf) .lf)) false)) .lf .lf)) .lf))))))))))) (.nd none (.nd (some (.bx none 2 5 [(.d (.val (.int .i64 200))), (.d (.val (.int .i64 250))), (.d (.val (.int .i64 260))), (.d (.val (.int .i64 300))), (.d (.val (.int .i64 390)))] .lf false)) .lf .lf) .lf))⟩⟩
theorem ra10_ok : Calls2 Try.prog ra10.f ra10.args ra10.n ra10.m ra10.q := chk_ok (fuel := 600) tabOk ztOk qtOk mtOk (known_sums smsOk) noGor mixed (by decide +kernel)
end Go.Proofs.Ytdkneonokbakjaa.Eng

noncomputable section
namespace Go.Proofs.Ytdkneonokbakjaa.Eng
open Go.RowKit
set_option maxRecDepth 100000
def raK : Known := ⟨[ra1, ra2, ra3, ra4, ra5, ra6, ra7, ra8, ra9, ra10], [], SMS⟩
theorem raK_ok : KnownOk Try.prog raK := (known_ent ra1_ok (known_ent ra2_ok (known_ent ra3_ok (known_ent ra4_ok (known_ent ra5_ok (known_ent ra6_ok (known_ent ra7_ok (known_ent ra8_ok (known_ent ra9_ok (known_ent ra10_ok (known_sums smsOk)))))))))))
theorem works_call : ACall Try.prog 17 [] (.val (.bool true)) := closed_call (n := 600) tabOk ztOk qtOk mtOk raK_ok noGor mixed (chkV_ok (by decide +kernel))
end Go.Proofs.Ytdkneonokbakjaa.Eng

noncomputable section
namespace Go.Proofs.Ytdkneonokbakjaa.Eng
open Go.RowKit
set_option maxRecDepth 100000
set_option maxHeartbeats 16000000
theorem many_c (ps : List Int) : ACall Try.prog 16 [intL ps] (bD (decide (20 < ps.length))) := by
  by_cases h : 20 < ps.length
  · have hi : (20 : Int) < ps.length := by omega
    rw [decide_eq_true h]
    refine acallK tabOk Try.func16 rfl rfl (show 1 ≤ _ by decide) rfl fun _ => ?_; simp only [Try.ntmps16]
    repeat (first | (with_reducible first | refine zq1 fun _ => ?_ | refine zq2 fun _ => ?_ | refine zq3 ?_) | ((first | refine zq4 ?_ | refine zq5 fun _ _ => ?_ | refine zq6 ?_); simp [-getElem?_pos, z0, z1, z2, h, hi]) | ((first | refine AWp.ret ?_ | refine AWp.skip ?_ | refine AWp.exit ?_); try simp only [thenP]) | (with_reducible refine zq7 ?_; simp only [blockP, thenP, reduceIte]) | with_reducible refine zq8 ?_)
    (first | refine RR.ret ?_ | refine RR.normal ?_); simp [z0]
  · have hi : ¬ (20 : Int) < ps.length := by omega
    rw [decide_eq_false h]
    refine acallK tabOk Try.func16 rfl rfl (show 1 ≤ _ by decide) rfl fun _ => ?_; simp only [Try.ntmps16]
    repeat (first | (with_reducible first | refine zq1 fun _ => ?_ | refine zq2 fun _ => ?_ | refine zq3 ?_) | ((first | refine zq4 ?_ | refine zq5 fun _ _ => ?_ | refine zq6 ?_); simp [-getElem?_pos, z0, z1, z2, h, hi]) | ((first | refine AWp.ret ?_ | refine AWp.skip ?_ | refine AWp.exit ?_); try simp only [thenP]) | (with_reducible refine zq7 ?_; simp only [blockP, thenP, reduceIte]) | with_reducible refine zq8 ?_)
    (first | refine RR.ret ?_ | refine RR.normal ?_); simp [z0]
end Go.Proofs.Ytdkneonokbakjaa.Eng

noncomputable section
namespace Go.Proofs.Ytdkneonokbakjaa.Eng
open Go.RowKit
set_option maxRecDepth 100000
set_option maxHeartbeats 8000000
theorem pick_more {A : Rgs} {x : Int} {n : Nat} : ∀ {N : Nat}, n ≤ N → (∀ j, n ≤ j → j < N → bearB A j x = false) → pickR A x N = pickR A x n
  | 0, h, _ => by rw [show n = 0 by omega]
  | N + 1, h, hno => by
    by_cases e : n = N + 1
    · rw [e]
    · have ih := pick_more (A := A) (x := x) (n := n) (N := N) (by omega) fun j h1 h2 => hno j h1 (by omega)
      have hb := hno N (by omega) (by omega)
      rw [pickR, ih, hb]
      cases pickR A x n with
      | none => rfl
      | some j => simp only [Bool.false_eq_true, false_and, if_false]
theorem runs_same {A : Rgs} {n N : Nat} {down : Int} (h : ∀ x, down ≤ x → pickR A x N = pickR A x n) (x : Int) : runsR A N x down = runsR A n x down := by
  refine runs_ind (A := A) (n := n) (down := down) (C := fun x => runsR A N x down = runsR A n x down) ?_ ?_ ?_ x
  · intro x hx
    rw [runs_stop hx, runs_stop hx]
  · intro x hx hp
    rw [runs_gap hp, runs_gap ((h x (by omega)).trans hp)]
  · intro x k hx hp ih
    rw [runs_step hx hp, runs_step hx ((h x (by omega)).trans hp), ih]
theorem runs_mem {A : Rgs} {n : Nat} {down x : Int} : ∀ r ∈ runsR A n x down, bearB A r.2 r.1 = true ∧ r.2 < n ∧ down ≤ r.1 ∧ r.1 ≤ x := by
  refine runs_ind (A := A) (n := n) (down := down) (C := fun x => ∀ r ∈ runsR A n x down, bearB A r.2 r.1 = true ∧ r.2 < n ∧ down ≤ r.1 ∧ r.1 ≤ x) ?_ ?_ ?_ x
  · intro x hx r hr
    rw [runs_stop hx] at hr
    cases hr
  · intro x hx hp r hr
    rw [runs_gap hp] at hr
    cases hr
  · intro x k hx hp ih r hr
    have pk := pick_some hp
    rw [runs_step hx hp] at hr
    rcases List.mem_cons.1 hr with rfl | hr
    · exact ⟨bearB_iff.2 ⟨pk.at1, pk.at2⟩, pk.lt, by simp only; omega, Int.le_refl _⟩
    · obtain ⟨h1, h2, h3, h4⟩ := ih r hr
      have := pk.at1
      exact ⟨h1, h2, h3, by omega⟩
theorem runs_12 {s : RS} {ps : List Int} (ok : StoOk s ps) {down : Int} (hd : s.short ≤ down) (x : Int) : runsR (allR s ps fun _ => true) 12 x down = runsR (betA s ps) ps.length x down := by
  have hs := ok.g.s1
  have n2 := ok.n2
  rw [← (runs_bet ok (n := ps.length) hd x).1]
  refine runs_same (fun y hy => pick_more n2 fun j hj _ => ?_) x
  rw [bearB, allR, List.getElem?_eq_none hj]
  exact decide_eq_false (by simp only; omega)
end Go.Proofs.Ytdkneonokbakjaa.Eng

noncomputable section
namespace Go.Proofs.Ytdkneonokbakjaa.Eng
open Go.RowKit
set_option maxRecDepth 100000
set_option maxHeartbeats 16000000
theorem allR_low {s : RS} {ps : List Int} (ok : StoOk s ps) : ∀ p, p < 12 → -1000000000 ≤ (allR s ps (fun _ => true) p).1 := fun p _ => (allR_in ok p).1
end Go.Proofs.Ytdkneonokbakjaa.Eng

noncomputable section
namespace Go.Proofs.Ytdkneonokbakjaa.Eng
open Go.RowKit
set_option maxRecDepth 100000
set_option maxHeartbeats 16000000
def whoP (s : RS) (ps : List Int) (n n' : Nat) (m' : Mem) (y : SV) : Prop := if planE s ps = 0 then ∃ w, n ≤ w ∧ w < n' ∧ y = .tup [.ptr w 0 0, .d (iD 0)] ∧ WhAt s ps (allR s ps fun _ => true) w m' else y = .tup [.d (.val (.pointer none)), .d (iD (planE s ps))]
theorem checkWhole_w (s : RS) (ps : List Int) (hl : ps.length ≤ 1000000) (n : Nat) (m : Mem) :
    CWp Try.prog 60 [.agg (sto5 s), .d (intL ps)] n m fun y n' m' => n ≤ n' ∧ whoP s ps n n' m' y ∧ ∀ j, j < n → m' j = m j := by
  by_cases h0 : stoE s ps = 0
  · have ok := stoE_ok.1 h0
    have hE : planE s ps = if wholeB (betA s ps) ps.length s.long s.short then 0 else 19 := if_pos h0
    refine cwpK tabOk Try.func60 rfl rfl (show 2 ≤ _ by decide) rfl fun _ => ?_; simp only [Try.ntmps60]
    repeat (first | (with_reducible first | refine AWi.seqK fun _ => ?_ | refine AWi.blockK fun _ => ?_ | refine KI.go ?_) | ((first | refine AWi.region tabOk ?_ | refine AWi.condK fun _ _ => ?_); simp [-getElem?_pos, z0, z1, z2, z0]) | ((first | refine AWi.ret ?_ | refine AWi.skip ?_ | refine AWi.exit ?_); try simp only [thenP]) | (with_reducible refine BB.go ?_; simp only [blockP, thenP, reduceIte]))
    refine ExecI.callC (check_w s ps hl _ _) rfl (by simp [calleeS, evList]) ?_
    rintro y n1 m1 ⟨q1, q2, q3⟩
    rw [whP, if_pos h0] at q2
    obtain ⟨w, q4, q5, rfl, hw⟩ := q2
    have hlow : ∀ j, j < n → m1 j = m j := fun j hj => (q3 j (by omega)).trans (by (try dsimp only); repeat (first | rw [setMem_lt (by omega)] | rw [putN_lt (by omega)]))
    simp
    repeat (first | (with_reducible first | refine AWi.seqK fun _ => ?_ | refine AWi.blockK fun _ => ?_ | refine KI.go ?_) | ((first | refine AWi.region tabOk ?_ | refine AWi.condK fun _ _ => ?_); simp [-getElem?_pos, z0, z1, z2, z0]) | ((first | refine AWi.ret ?_ | refine AWi.skip ?_ | refine AWi.exit ?_); try simp only [thenP]) | (with_reducible refine BB.go ?_; simp only [blockP, thenP, reduceIte]))
    refine ExecI.callC (gap_w ok hw _ (by omega)) rfl (by simp [calleeS, evList]) ?_
    rintro y n2 m2 ⟨u1, rfl, u3⟩
    cases hg : gapR (betA s ps) ps.length s.long s.short with
    | some z =>
      have hE2 : planE s ps = 19 := by rw [hE, wholeB, hg]; rfl
      simp [gapV2, hg]
      repeat (first | (with_reducible first | refine AWi.seqK fun _ => ?_ | refine AWi.blockK fun _ => ?_ | refine KI.go ?_) | ((first | refine AWi.region tabOk ?_ | refine AWi.condK fun _ _ => ?_); simp [-getElem?_pos, z0, z1, z2, z0]) | ((first | refine AWi.ret ?_ | refine AWi.skip ?_ | refine AWi.exit ?_); try simp only [thenP]) | (with_reducible refine BB.go ?_; simp only [blockP, thenP, reduceIte]))
      refine RI.ret (xs := [.d (.val (.pointer none)), .d (iD 19)]) (by simp [Try.results60, resSlots, resSlot, z0]) ?_
      exact ⟨by omega, by rw [whoP, if_neg (by rw [hE2]; decide), hE2]; rfl, fun j hj => (u3 j (by omega)).trans (hlow j hj)⟩
    | none =>
      have hE2 : planE s ps = 0 := by rw [hE, wholeB, hg]; rfl
      simp [gapV2, hg]
      repeat (first | (with_reducible first | refine AWi.seqK fun _ => ?_ | refine AWi.blockK fun _ => ?_ | refine KI.go ?_) | ((first | refine AWi.region tabOk ?_ | refine AWi.condK fun _ _ => ?_); simp [-getElem?_pos, z0, z1, z2, z0]) | ((first | refine AWi.ret ?_ | refine AWi.skip ?_ | refine AWi.exit ?_); try simp only [thenP]) | (with_reducible refine BB.go ?_; simp only [blockP, thenP, reduceIte]))
      refine RI.ret (xs := [.ptr w 0 0, .d (iD 0)]) (by simp [Try.results60, resSlots, resSlot, z0]) ?_
      exact ⟨by omega, by rw [whoP, if_pos hE2]; exact ⟨w, by omega, by omega, rfl, (u3 w (by omega)).trans hw⟩, fun j hj => (u3 j (by omega)).trans (hlow j hj)⟩
  · have hE : planE s ps = stoE s ps := if_neg h0
    refine cwpK tabOk Try.func60 rfl rfl (show 2 ≤ _ by decide) rfl fun _ => ?_; simp only [Try.ntmps60]
    repeat (first | (with_reducible first | refine AWi.seqK fun _ => ?_ | refine AWi.blockK fun _ => ?_ | refine KI.go ?_) | ((first | refine AWi.region tabOk ?_ | refine AWi.condK fun _ _ => ?_); simp [-getElem?_pos, z0, z1, z2, z0]) | ((first | refine AWi.ret ?_ | refine AWi.skip ?_ | refine AWi.exit ?_); try simp only [thenP]) | (with_reducible refine BB.go ?_; simp only [blockP, thenP, reduceIte]))
    refine ExecI.callC (check_w s ps hl _ _) rfl (by simp [calleeS, evList]) ?_
    rintro y n1 m1 ⟨q1, q2, q3⟩
    rw [whP, if_neg h0] at q2
    subst q2
    have hlow : ∀ j, j < n → m1 j = m j := fun j hj => (q3 j (by omega)).trans (by (try dsimp only); repeat (first | rw [setMem_lt (by omega)] | rw [putN_lt (by omega)]))
    simp
    repeat (first | (with_reducible first | refine AWi.seqK fun _ => ?_ | refine AWi.blockK fun _ => ?_ | refine KI.go ?_) | ((first | refine AWi.region tabOk ?_ | refine AWi.condK fun _ _ => ?_); simp [-getElem?_pos, z0, z1, z2, h0]) | ((first | refine AWi.ret ?_ | refine AWi.skip ?_ | refine AWi.exit ?_); try simp only [thenP]) | (with_reducible refine BB.go ?_; simp only [blockP, thenP, reduceIte]))
    refine RI.ret (xs := [.d (.val (.pointer none)), .d (iD (stoE s ps))]) (by simp [Try.results60, resSlots, resSlot, z0]) ?_
    exact ⟨by omega, by rw [whoP, if_neg (by rw [hE]; exact h0), hE]; rfl, hlow⟩
def lsR : List (Int × Int) → SV
  | [] => .nilS
  | x :: L => .d (runsD (x :: L))
theorem lsR_app (L : List (Int × Int)) (x : Int × Int) : lsR (L ++ [x]) = .d (runsD (L ++ [x])) := by cases L <;> rfl
theorem lsR_d4 (L : List (Int × Int)) : toD4 (lsR L) = some (runsD L) := by cases L <;> rfl
theorem grownR_w (L : List (Int × Int)) (x : Int × Int) (hl : L.length ≤ 100000) (n : Nat) (m : Mem) : CWp Try.prog 62 [lsR L, .agg [.d (iD x.1), .d (iD x.2)]] n m fun y n' m' => lsR (L ++ [x]) = y ∧ n = n' ∧ m = m' := by
  have h := (RCall.ofA4 (grownR_c L x hl) (svs := [lsR L, .agg [.d (iD x.1), .d (iD x.2)]]) (by simp [mapO, lsR_d4]; rfl) (fun _ => none)).cwp (m := m) (fun i b hb => by cases hb) (x := .d (runsD (L ++ [x]))) rfl n
  refine h.mono ?_
  rintro y n' m' ⟨rfl, rfl, rfl⟩
  exact ⟨lsR_app L x, rfl, rfl⟩
theorem takenR_v (L : List (Int × Int)) (hl : L.length ≤ 1000000) (n : Nat) (m : Mem) : CWp Try.prog 63 [lsR L] n m fun y n' m' => y = .d (runsD L) ∧ n' = n ∧ m' = m :=
  (RCall.ofA4 (takenR_c L hl) (svs := [lsR L]) (by simp [mapO, lsR_d4]) (fun _ => none)).cwp (m := m) (fun i b hb => by cases hb) rfl n
theorem plan_x (s : RS) (ps : List Int) (hl : ps.length ≤ 1000000) (n : Nat) (m : Mem) :
    CWp Try.prog 28 [.d (stoD s), .d (intL ps)] n m fun y n' m' => toD4 y = some (.tup [runsD (planO s ps), iD (planE s ps)]) ∧ ∀ j, j < n → m' j = m j := by
  by_cases h0 : planE s ps = 0
  · have hs0 : stoE s ps = 0 := by
      by_cases h : stoE s ps = 0
      · exact h
      · rw [planE, if_neg h] at h0; exact absurd h0 h
    have ok := stoE_ok.1 hs0
    have hg := ok.g
    have g1 := hg.s1; have g2 := hg.s2; have g3 := hg.s3
    have hsh := planO_short s ps
    have hV : planO s ps = runsZ (runsR (allR s ps fun _ => true) 12 s.long s.short) := by
      rw [planO, if_pos hs0, planL]
      rw [planE, if_pos hs0, wholeB] at h0
      cases hgp : gapR (betA s ps) ps.length s.long s.short with
      | none => simp only; rw [runs_12 ok (Int.le_refl _)]
      | some z => rw [hgp] at h0; simp at h0
    obtain ⟨A, hA⟩ : ∃ A, A = allR s ps fun _ => true := ⟨_, rfl⟩
    have hlo := allR_low ok
    refine cwpK tabOk Try.func28 rfl rfl (show 2 ≤ _ by decide) rfl fun _ => ?_; simp only [Try.ntmps28]
    repeat (first | (with_reducible first | refine AWi.seqK fun _ => ?_ | refine AWi.blockK fun _ => ?_ | refine KI.go ?_) | ((first | refine AWi.region tabOk ?_ | refine AWi.condK fun _ _ => ?_); simp [-getElem?_pos, z0, z1, z2, z0]) | ((first | refine AWi.ret ?_ | refine AWi.skip ?_ | refine AWi.exit ?_); try simp only [thenP]) | (with_reducible refine BB.go ?_; simp only [blockP, thenP, reduceIte]))
    refine ExecI.callC (checkWhole_w s ps hl _ _) rfl (by simp [calleeS, evList]) ?_
    rintro y n1 m1 ⟨q1, q2, q3⟩
    rw [whoP, if_pos h0] at q2
    obtain ⟨w, q4, q5, rfl, hw⟩ := q2
    have hlow : ∀ j, j < n → m1 j = m j := fun j hj => (q3 j (by omega)).trans (by (try dsimp only); repeat (first | rw [setMem_lt (by omega)] | rw [putN_lt (by omega)]))
    have r0 : m1 n = some (.box 25 (sto5 s) false) := (q3 _ (by omega)).trans (by simp)
    rw [← hA] at hw hV hlo
    have o0 : ¬ n = n1 := by omega
    simp
    have o7 : ¬ n = n1 + 1 + 1 + 1 + 1 + 1 + 1 + 1 := by omega
    repeat (first | (with_reducible first | refine AWi.seqK fun _ => ?_ | refine AWi.blockK fun _ => ?_ | refine KI.go ?_) | ((first | refine AWi.region tabOk ?_ | refine AWi.condK fun _ _ => ?_); simp [-getElem?_pos, z0, z1, z2, r0, o0, o7]) | ((first | refine AWi.ret ?_ | refine AWi.skip ?_ | refine AWi.exit ?_); try simp only [thenP]) | (with_reducible refine BB.go ?_; simp only [blockP, thenP, reduceIte]))
    refine ExecI.callC (runs_w w s.long s.short _ _) rfl (by simp [calleeS, evList]) ?_
    rintro y n4 m4 ⟨rfl, rfl, rfl⟩
    simp
    repeat (first | (with_reducible first | refine AWi.seqK fun _ => ?_ | refine AWi.blockK fun _ => ?_ | refine KI.go ?_) | ((first | refine AWi.region tabOk ?_ | refine AWi.condK fun _ _ => ?_); simp [-getElem?_pos, z0, z1, z2, z0]) | ((first | refine AWi.ret ?_ | refine AWi.skip ?_ | refine AWi.exit ?_); try simp only [thenP]) | (with_reducible refine BB.go ?_; simp only [blockP, thenP, reduceIte]))
    obtain ⟨N, hN⟩ : ∃ N, N = n1 + 1 + 1 + 1 + 1 + 1 + 1 + 1 + 1 + 1 + 1 + 1 + 1 + 1 := ⟨_, rfl⟩
    obtain ⟨rs, hrs⟩ : ∃ rs, rs = runsR A 12 s.long s.short := ⟨_, rfl⟩
    have hit := runs1_w (s := s) (ps := ps) (A := A) w N (N + 1) (N + 1 + 1) s.long s.short g1 (by omega) hlo
    rw [← hrs] at hV hit
    rw [hV, runsZ_len] at hsh
    rw [← hN]
    refine AWi.iterK hit (f := 77) (us := []) (vs := [.ptr N 0 0, .ptr (N + 1) 0 0, .ptr (N + 1 + 1) 0 0]) (by simp [-getElem?_pos, z0, z1, z2, runsF]) (fun _ => rfl) (fun _ h => by cases h) rfl (by intro z hz; obtain ⟨x, _, rfl⟩ := List.mem_map.1 hz; rfl)
      (fun i mm => (∀ j, j < n1 → mm j = m1 j) ∧ mm N = some (.box 76 [.ptr w 0 0] false) ∧ mm (N + 1) = some (.box 2 [.d (iD s.long)] false) ∧ mm (N + 1 + 1) = some (.box 2 [.d (iD s.short)] false) ∧ mm (n1 + 1 + 1 + 1 + 1 + 1 + 1 + 1) = some (.box 36 [lsR (runsZ (rs.take i))] false))
      (fun c mm => False) ?_ ?_ (fun i mm h => ⟨(h.1 w (by omega)).trans hw, ⟨_, h.2.1⟩, ⟨_, h.2.2.1⟩, ⟨_, h.2.2.2.1⟩⟩) ?_ ?_ ?_ ?_
    · rintro i mm mm' h ⟨h1, h3, h4, h5, h6⟩
      exact ⟨fun j hj => (h j (by omega)).trans (h1 j hj), (h _ (by omega)).trans h3, (h _ (by omega)).trans h4, (h _ (by omega)).trans h5, (h _ (by omega)).trans h6⟩
    · exact fun c mm mm' h hf => hf
    · refine ⟨fun j hj => by simp only [runsM]; (try dsimp only); repeat (first | rw [setMem_lt (by omega)] | rw [putN_lt (by omega)]), ?_, ?_, ?_, ?_⟩
      · simp only [runsM]; rw [setMem, if_neg (by omega), setMem, if_neg (by omega)]; exact if_pos rfl
      · simp only [runsM]; rw [setMem, if_neg (by omega)]; exact if_pos rfl
      · simp only [runsM]; exact if_pos rfl
      · simp only [runsM]; rw [setMem, if_neg (by omega), setMem, if_neg (by omega), setMem, if_neg (by omega)]; exact if_pos rfl
    · rintro i n5 m5 z hz hn5 ⟨h1, h3, h4, h5, h6⟩ kr
      rw [List.getElem?_map, Option.map_eq_some_iff] at hz
      obtain ⟨⟨x, p⟩, hr, rfl⟩ := hz
      have hil := (List.getElem?_eq_some_iff.1 hr).1
      have hnext : runsZ (rs.take (i + 1)) = runsZ (rs.take i) ++ [(x, (p : Int))] := by
        rw [List.take_add_one, hr]
        simp [runsZ]
      have hlen : (runsZ (rs.take i)).length ≤ 100000 := by rw [runsZ_len, List.length_take]; omega
      simp only [runV]
      repeat (first | (with_reducible first | refine AWi.seqK fun _ => ?_ | refine AWi.blockK fun _ => ?_ | refine KI.go ?_) | ((first | refine AWi.region tabOk ?_ | refine AWi.condK fun _ _ => ?_); simp [-getElem?_pos, z0, z1, z2, putAll]) | ((first | refine AWi.ret ?_ | refine AWi.skip ?_ | refine AWi.exit ?_); try simp only [thenP]) | (with_reducible refine BB.go ?_; simp only [blockP, thenP, reduceIte]))
      refine RB.go (by omega) (fun j hj => by (try dsimp only); repeat (first | rw [setMem_lt (by omega)] | rw [putN_lt (by omega)])) fun rc hrc qq => ?_
      have p1 : ¬ n1 + 1 + 1 + 1 + 1 + 1 + 1 + 1 = n5 := by omega
      have p2 : ¬ n1 + 1 = N := by omega
      have p3 : ¬ n5 = N + 1 + 1 + 1 + 1 + 1 + 1 := by omega
      generalize hL : runsZ (rs.take i) = L at *
      repeat (first | (with_reducible first | refine AWi.seqK fun _ => ?_ | refine AWi.blockK fun _ => ?_ | refine KI.go ?_) | ((first | refine AWi.region tabOk ?_ | refine AWi.condK fun _ _ => ?_); simp [-getElem?_pos, z0, z1, z2, h6, p1, p2, p3]) | ((first | refine AWi.ret ?_ | refine AWi.skip ?_ | refine AWi.exit ?_); try simp only [thenP]) | (with_reducible refine BB.go ?_; simp only [blockP, thenP, reduceIte]))
      refine ExecI.callC (grownR_w L (x, (p : Int)) hlen _ _) rfl (by simp [calleeS, evList]) ?_
      rintro y n6 m6 ⟨rfl, rfl, rfl⟩
      simp [-getElem?_pos, z0, z1, z2, h6, p1, p2, p3, lsR_app]
      repeat (first | (with_reducible first | refine AWi.seqK fun _ => ?_ | refine AWi.blockK fun _ => ?_ | refine KI.go ?_) | ((first | refine AWi.region tabOk ?_ | refine AWi.condK fun _ _ => ?_); simp [-getElem?_pos, z0, z1, z2, z0]) | ((first | refine AWi.ret ?_ | refine AWi.skip ?_ | refine AWi.exit ?_); try simp only [thenP]) | (with_reducible refine BB.go ?_; simp only [blockP, thenP, reduceIte]))
      have u9 : ∀ j, j < n5 → j ≠ N + 1 + 1 + 1 + 1 + 1 + 1 → j ≠ n1 + 1 + 1 + 1 + 1 + 1 + 1 + 1 → ∀ b1 b2 b3 b4 : Option Blk, setMem (setMem (setMem (setMem m5 n5 b1) n5 b2) (N + 1 + 1 + 1 + 1 + 1 + 1) b3) (n1 + 1 + 1 + 1 + 1 + 1 + 1 + 1) b4 j = m5 j := fun j j0 j1 j2 b1 b2 b3 b4 => by
        rw [setMem, if_neg (by omega), setMem, if_neg (by omega), setMem, if_neg (by omega), setMem, if_neg (by omega)]
      exact RE.normal (by omega) (fun j j1 j2 => show setMem _ _ _ j = _ by rw [setMem, if_neg (by omega)]) ⟨fun j hj => (u9 j (by omega) (by omega) (by omega) _ _ _ _).trans (h1 j hj), (u9 _ (by omega) (by omega) (by omega) _ _ _ _).trans h3, (u9 _ (by omega) (by omega) (by omega) _ _ _ _).trans h4, (u9 _ (by omega) (by omega) (by omega) _ _ _ _).trans h5, Eq.trans (if_pos rfl) (by rw [hnext, lsR_app])⟩
    · rintro n' m' hn' ⟨h1, h3, h4, h5, h6⟩
      simp only [thenP]
      rw [List.length_map, List.take_length] at h6
      generalize hL : runsZ rs = L at *
      repeat (first | (with_reducible first | refine AWi.seqK fun _ => ?_ | refine AWi.blockK fun _ => ?_ | refine KI.go ?_) | ((first | refine AWi.region tabOk ?_ | refine AWi.condK fun _ _ => ?_); simp [-getElem?_pos, z0, z1, z2, h6]) | ((first | refine AWi.ret ?_ | refine AWi.skip ?_ | refine AWi.exit ?_); try simp only [thenP]) | (with_reducible refine BB.go ?_; simp only [blockP, thenP, reduceIte]))
      refine ExecI.callC (takenR_v L (by rw [← hL, runsZ_len]; omega) _ _) rfl (by simp [calleeS, evList]) ?_
      rintro y n6 m6 ⟨rfl, rfl, rfl⟩
      simp [-getElem?_pos, z0, z1, z2]
      repeat (first | (with_reducible first | refine AWi.seqK fun _ => ?_ | refine AWi.blockK fun _ => ?_ | refine KI.go ?_) | ((first | refine AWi.region tabOk ?_ | refine AWi.condK fun _ _ => ?_); simp [-getElem?_pos, z0, z1, z2, z0]) | ((first | refine AWi.ret ?_ | refine AWi.skip ?_ | refine AWi.exit ?_); try simp only [thenP]) | (with_reducible refine BB.go ?_; simp only [blockP, thenP, reduceIte]))
      refine RI.ret (xs := [.d (runsD L), .d (iD 0)]) (by simp [Try.results28, resSlots, resSlot, z0]) ?_
      exact ⟨by rw [hV, h0]; rfl, fun j hj => (h1 j (by omega)).trans (hlow j hj)⟩
    · exact fun c n' m' hn' hf => hf.elim
  · have hV : planO s ps = [] := planO_no h0
    refine cwpK tabOk Try.func28 rfl rfl (show 2 ≤ _ by decide) rfl fun _ => ?_; simp only [Try.ntmps28]
    repeat (first | (with_reducible first | refine AWi.seqK fun _ => ?_ | refine AWi.blockK fun _ => ?_ | refine KI.go ?_) | ((first | refine AWi.region tabOk ?_ | refine AWi.condK fun _ _ => ?_); simp [-getElem?_pos, z0, z1, z2, z0]) | ((first | refine AWi.ret ?_ | refine AWi.skip ?_ | refine AWi.exit ?_); try simp only [thenP]) | (with_reducible refine BB.go ?_; simp only [blockP, thenP, reduceIte]))
    refine ExecI.callC (checkWhole_w s ps hl _ _) rfl (by simp [calleeS, evList]) ?_
    rintro y n1 m1 ⟨q1, q2, q3⟩
    rw [whoP, if_neg h0] at q2
    subst q2
    have hlow : ∀ j, j < n → m1 j = m j := fun j hj => (q3 j (by omega)).trans (by (try dsimp only); repeat (first | rw [setMem_lt (by omega)] | rw [putN_lt (by omega)]))
    simp
    repeat (first | (with_reducible first | refine AWi.seqK fun _ => ?_ | refine AWi.blockK fun _ => ?_ | refine KI.go ?_) | ((first | refine AWi.region tabOk ?_ | refine AWi.condK fun _ _ => ?_); simp [-getElem?_pos, z0, z1, z2, h0]) | ((first | refine AWi.ret ?_ | refine AWi.skip ?_ | refine AWi.exit ?_); try simp only [thenP]) | (with_reducible refine BB.go ?_; simp only [blockP, thenP, reduceIte]))
    refine RI.ret (xs := [.nilS, .d (iD (planE s ps))]) (by simp [Try.results28, resSlots, resSlot, z0]) ?_
    exact ⟨by rw [hV]; rfl, hlow⟩
theorem plan_c (s : RS) (ps : List Int) (hl : ps.length ≤ 1000000) : ACall Try.prog 28 [stoD s, intL ps] (.tup [runsD (planO s ps), iD (planE s ps)]) :=
  ACall.ofR (RCall.of4 (n0 := 0) fun n _ => (plan_x s ps hl n _).mono fun _ _ _ h => h)
theorem points_c (s : RS) (ps : List Int) (hl : ps.length ≤ 1000000) (hsh : (planO s ps).length ≤ 1000) : ACall Try.prog 30 [stoD s, intL ps] (.tup [intL (ptsO s ps), iD (planE s ps)]) := by
  have cp := plan_c s ps hl
  by_cases h0 : planE s ps = 0
  · have cf := froms_x (planO s ps) hsh
    rw [h0] at cp ⊢
    unfold ptsO
    generalize planO s ps = l at *
    refine acallK tabOk Try.func30 rfl rfl (show 2 ≤ _ by decide) rfl fun _ => ?_; simp only [Try.ntmps30]
    repeat (first | (with_reducible first | refine zq1 fun _ => ?_ | refine zq2 fun _ => ?_ | refine zq3 ?_) | ((first | refine zq4 ?_ | refine zq5 fun _ _ => ?_ | refine zq6 ?_); simp [-getElem?_pos, z0, z1, z2, z0]) | ((first | refine AWp.ret ?_ | refine AWp.skip ?_ | refine AWp.exit ?_); try simp only [thenP]) | (with_reducible refine zq7 ?_; simp only [blockP, thenP, reduceIte]) | with_reducible refine zq8 ?_)
    (first | refine Exec0.call [] cp ?_ rfl ?_ ?_ | refine Exec.call [] cp ?_ rfl ?_ ?_); (focus simp [-getElem?_pos, z0]); (focus simp [-getElem?_pos, z0, z1, z2, z0]); simp [-getElem?_pos, z0, z1, z2, z0]
    repeat (first | (with_reducible first | refine zq1 fun _ => ?_ | refine zq2 fun _ => ?_ | refine zq3 ?_) | ((first | refine zq4 ?_ | refine zq5 fun _ _ => ?_ | refine zq6 ?_); simp [-getElem?_pos, z0, z1, z2, z0]) | ((first | refine AWp.ret ?_ | refine AWp.skip ?_ | refine AWp.exit ?_); try simp only [thenP]) | (with_reducible refine zq7 ?_; simp only [blockP, thenP, reduceIte]) | with_reducible refine zq8 ?_)
    (first | refine Exec0.call [] cf ?_ rfl ?_ ?_ | refine Exec.call [] cf ?_ rfl ?_ ?_); (focus simp [-getElem?_pos, z0]); (focus simp [-getElem?_pos, z0, z1, z2, z0]); simp [-getElem?_pos, z0, z1, z2, z0]
    repeat (first | (with_reducible first | refine zq1 fun _ => ?_ | refine zq2 fun _ => ?_ | refine zq3 ?_) | ((first | refine zq4 ?_ | refine zq5 fun _ _ => ?_ | refine zq6 ?_); simp [-getElem?_pos, z0, z1, z2, z0]) | ((first | refine AWp.ret ?_ | refine AWp.skip ?_ | refine AWp.exit ?_); try simp only [thenP]) | (with_reducible refine zq7 ?_; simp only [blockP, thenP, reduceIte]) | with_reducible refine zq8 ?_)
    (first | refine RR.ret ?_ | refine RR.normal ?_); simp [z0]
  · have hV : planO s ps = [] := planO_no h0
    rw [ptsO, hV]
    rw [hV] at cp
    generalize planE s ps = e at *
    refine acallK tabOk Try.func30 rfl rfl (show 2 ≤ _ by decide) rfl fun _ => ?_; simp only [Try.ntmps30]
    repeat (first | (with_reducible first | refine zq1 fun _ => ?_ | refine zq2 fun _ => ?_ | refine zq3 ?_) | ((first | refine zq4 ?_ | refine zq5 fun _ _ => ?_ | refine zq6 ?_); simp [-getElem?_pos, z0, z1, z2, z0]) | ((first | refine AWp.ret ?_ | refine AWp.skip ?_ | refine AWp.exit ?_); try simp only [thenP]) | (with_reducible refine zq7 ?_; simp only [blockP, thenP, reduceIte]) | with_reducible refine zq8 ?_)
    (first | refine Exec0.call [] cp ?_ rfl ?_ ?_ | refine Exec.call [] cp ?_ rfl ?_ ?_); (focus simp [-getElem?_pos, h0]); (focus simp [-getElem?_pos, z0, z1, z2, h0]); simp [-getElem?_pos, z0, z1, z2, h0]
    repeat (first | (with_reducible first | refine zq1 fun _ => ?_ | refine zq2 fun _ => ?_ | refine zq3 ?_) | ((first | refine zq4 ?_ | refine zq5 fun _ _ => ?_ | refine zq6 ?_); simp [-getElem?_pos, z0, z1, z2, h0]) | ((first | refine AWp.ret ?_ | refine AWp.skip ?_ | refine AWp.exit ?_); try simp only [thenP]) | (with_reducible refine zq7 ?_; simp only [blockP, thenP, reduceIte]) | with_reducible refine zq8 ?_)
    (first | refine RR.ret ?_ | refine RR.normal ?_); simp [h0]
end Go.Proofs.Ytdkneonokbakjaa.Eng

noncomputable section
namespace Go.Proofs.Ytdkneonokbakjaa.Eng
open Go.RowKit
set_option maxRecDepth 100000
set_option maxHeartbeats 8000000
theorem runs_nodup {A : Rgs} {n : Nat} {down x : Int} : ((runsR A n x down).map (·.2)).Nodup := by
  refine runs_ind (A := A) (n := n) (down := down) (C := fun x => ((runsR A n x down).map (·.2)).Nodup) ?_ ?_ ?_ x
  · intro x hx
    rw [runs_stop hx]
    exact List.nodup_nil
  · intro x hx hp
    rw [runs_gap hp]
    exact List.nodup_nil
  · intro x k hx hp ih
    rw [runs_step hx hp, List.map_cons, List.nodup_cons]
    refine ⟨fun h => ?_, ih⟩
    obtain ⟨r, hr, e⟩ := List.mem_map.1 h
    obtain ⟨h1, h2, h3, h4⟩ := runs_mem r hr
    have h5 := (bearB_iff.1 h1).1
    simp only at e
    rw [e] at h5
    omega
theorem runs_few {A : Rgs} {n : Nat} {down x : Int} : (runsR A n x down).length ≤ n := by
  have h := List.Nodup.length_le_of_subset (runs_nodup (A := A) (n := n) (down := down) (x := x)) (l₂ := List.range n) (fun k hk => by
    obtain ⟨r, hr, rfl⟩ := List.mem_map.1 hk
    exact List.mem_range.2 (runs_mem r hr).2.1)
  simpa using h
theorem planO_few {s : RS} {ps : List Int} (hl : ps.length ≤ 1000) : (planO s ps).length ≤ 1000 := by
  unfold planO
  split
  · unfold planL
    split
    · rw [runsZ_len]
      have := runs_few (A := betA s ps) (n := ps.length) (x := s.long) (down := s.short)
      omega
    · exact Nat.zero_le _
  · exact Nat.zero_le _
theorem runsSame_c (l : List (Int × Int)) (hl : l.length ≤ 1000000) : ACall Try.prog 32 [runsD l, runsD l] (bD true) := by
  refine acallK tabOk Try.func32 rfl rfl (show 2 ≤ _ by decide) rfl fun _ => ?_; simp only [Try.ntmps32]
  repeat (first | (with_reducible first | refine zq1 fun _ => ?_ | refine zq2 fun _ => ?_ | refine zq3 ?_) | ((first | refine zq4 ?_ | refine zq5 fun _ _ => ?_ | refine zq6 ?_); simp [-getElem?_pos, z0, z1, z2, z0]) | ((first | refine AWp.ret ?_ | refine AWp.skip ?_ | refine AWp.exit ?_); try simp only [thenP]) | (with_reducible refine zq7 ?_; simp only [blockP, thenP, reduceIte]) | with_reducible refine zq8 ?_)
  refine AWp.loopK (ι := { k : Nat // k ≤ l.length }) (n := 0) (fun k => [(0, .d (runsD l)), (1, .d (runsD l)), (5, .d (iD k.1))]) (fun _ => []) (fun k => l.length - k.1) ⟨0, Nat.zero_le _⟩ [] ?_ ?_
  · refine ⟨by rfl, by simp [], by simp [or_imp, forall_and, ] <;> (try (intro _hne; simp [_hne])), by decide⟩
  rintro ⟨k, hk⟩ kk
  have w1 : IntKind.i64.wrap ((k : Int) + 1) = (k : Int) + 1 := wrap64_in (by omega)
  by_cases hlt : k < l.length
  · obtain ⟨⟨x, p⟩, hx⟩ : ∃ x, l[k]? = some x := ⟨_, List.getElem?_eq_getElem (by omega)⟩
    repeat (first | (with_reducible first | refine zq1 fun _ => ?_ | refine zq2 fun _ => ?_ | refine zq3 ?_) | ((first | refine zq4 ?_ | refine zq5 fun _ _ => ?_ | refine zq6 ?_); simp [-getElem?_pos, z0, z1, z2, hlt, hx, w1]) | ((first | refine AWp.ret ?_ | refine AWp.skip ?_ | refine AWp.exit ?_); try simp only [thenP]) | (with_reducible refine zq7 ?_; simp only [blockP, thenP, reduceIte]) | with_reducible refine zq8 ?_)
    refine LL.go ⟨k + 1, hlt⟩ [] ⟨by rfl, by simp [], by simp [or_imp, forall_and, ] <;> (try (intro _hne; simp [_hne])), by decide⟩ ?_
    simp; omega
  · obtain rfl : k = l.length := by omega
    repeat (first | (with_reducible first | refine zq1 fun _ => ?_ | refine zq2 fun _ => ?_ | refine zq3 ?_) | ((first | refine zq4 ?_ | refine zq5 fun _ _ => ?_ | refine zq6 ?_); simp [-getElem?_pos, z0, z1, z2, z0]) | ((first | refine AWp.ret ?_ | refine AWp.skip ?_ | refine AWp.exit ?_); try simp only [thenP]) | (with_reducible refine zq7 ?_; simp only [blockP, thenP, reduceIte]) | with_reducible refine zq8 ?_)
    (first | refine RR.ret ?_ | refine RR.normal ?_); simp [z0]
theorem longsSame_c (l : List Int) (hl : l.length ≤ 1000000) : ACall Try.prog 33 [intL l, intL l] (bD true) := by
  refine acallK tabOk Try.func33 rfl rfl (show 2 ≤ _ by decide) rfl fun _ => ?_; simp only [Try.ntmps33]
  repeat (first | (with_reducible first | refine zq1 fun _ => ?_ | refine zq2 fun _ => ?_ | refine zq3 ?_) | ((first | refine zq4 ?_ | refine zq5 fun _ _ => ?_ | refine zq6 ?_); simp [-getElem?_pos, z0, z1, z2, z0]) | ((first | refine AWp.ret ?_ | refine AWp.skip ?_ | refine AWp.exit ?_); try simp only [thenP]) | (with_reducible refine zq7 ?_; simp only [blockP, thenP, reduceIte]) | with_reducible refine zq8 ?_)
  refine AWp.loopK (ι := { k : Nat // k ≤ l.length }) (n := 0) (fun k => [(0, .d (intL l)), (1, .d (intL l)), (5, .d (iD k.1))]) (fun _ => []) (fun k => l.length - k.1) ⟨0, Nat.zero_le _⟩ [] ?_ ?_
  · refine ⟨by rfl, by simp [], by simp [or_imp, forall_and, ] <;> (try (intro _hne; simp [_hne])), by decide⟩
  rintro ⟨k, hk⟩ kk
  have w1 : IntKind.i64.wrap ((k : Int) + 1) = (k : Int) + 1 := wrap64_in (by omega)
  by_cases hlt : k < l.length
  · obtain ⟨x, hx⟩ : ∃ x, l[k]? = some x := ⟨_, List.getElem?_eq_getElem (by omega)⟩
    repeat (first | (with_reducible first | refine zq1 fun _ => ?_ | refine zq2 fun _ => ?_ | refine zq3 ?_) | ((first | refine zq4 ?_ | refine zq5 fun _ _ => ?_ | refine zq6 ?_); simp [-getElem?_pos, z0, z1, z2, hlt, hx, w1]) | ((first | refine AWp.ret ?_ | refine AWp.skip ?_ | refine AWp.exit ?_); try simp only [thenP]) | (with_reducible refine zq7 ?_; simp only [blockP, thenP, reduceIte]) | with_reducible refine zq8 ?_)
    refine LL.go ⟨k + 1, hlt⟩ [] ⟨by rfl, by simp [], by simp [or_imp, forall_and, ] <;> (try (intro _hne; simp [_hne])), by decide⟩ ?_
    simp; omega
  · obtain rfl : k = l.length := by omega
    repeat (first | (with_reducible first | refine zq1 fun _ => ?_ | refine zq2 fun _ => ?_ | refine zq3 ?_) | ((first | refine zq4 ?_ | refine zq5 fun _ _ => ?_ | refine zq6 ?_); simp [-getElem?_pos, z0, z1, z2, z0]) | ((first | refine AWp.ret ?_ | refine AWp.skip ?_ | refine AWp.exit ?_); try simp only [thenP]) | (with_reducible refine zq7 ?_; simp only [blockP, thenP, reduceIte]) | with_reducible refine zq8 ?_)
    (first | refine RR.ret ?_ | refine RR.normal ?_); simp [z0]
end Go.Proofs.Ytdkneonokbakjaa.Eng

noncomputable section
namespace Go.Proofs.Ytdkneonokbakjaa.Eng
open Go.RowKit
set_option maxRecDepth 100000
set_option maxHeartbeats 16000000
theorem lenB_pts {s : RS} {l : List Int} : lenB s l = true ↔ (List.range l.length).all (ptOk s l) = true := by
  have e : l = (l.map fun x => (x, (0 : Int))).map (·.1) := by simp [Function.comp_def]
  have hg : ∀ (j : Nat) (x p : Int), (l.map fun x => (x, (0 : Int)))[j]? = some (x, p) ↔ l[j]? = some x ∧ p = 0 := fun j x p => by
    rw [List.getElem?_map, Option.map_eq_some_iff]
    constructor
    · rintro ⟨a, h, e⟩
      cases e
      exact ⟨h, rfl⟩
    · rintro ⟨h, rfl⟩
      exact ⟨x, h, rfl⟩
  rw [show lenB s l = lenB s ((l.map fun x => (x, (0 : Int))).map (·.1)) from congrArg _ e, lenB_iff]
  constructor
  · rintro ⟨h1, h2⟩
    rw [List.all_eq_true]
    intro i hi
    rw [List.mem_range] at hi
    obtain ⟨x, hx⟩ : ∃ x, l[i]? = some x := ⟨_, List.getElem?_eq_getElem hi⟩
    obtain ⟨b1, b2⟩ := h2 i x 0 ((hg _ _ _).2 ⟨hx, rfl⟩)
    rw [ptOk_at hx, decide_eq_true b1, decide_eq_true b2]
    cases i with
    | zero => rfl
    | succ j =>
      obtain ⟨y, hy⟩ : ∃ y, l[j]? = some y := ⟨_, List.getElem?_eq_getElem (by omega)⟩
      rw [if_neg (Nat.succ_ne_zero j), Nat.add_sub_cancel, hy]
      simp [h1 j x 0 y 0 ((hg _ _ _).2 ⟨hy, rfl⟩) ((hg _ _ _).2 ⟨hx, rfl⟩)]
  · intro h
    refine ⟨fun j x p y q hy hx => ?_, fun j x p hx => ?_⟩
    · exact pts_dec h ((hg _ _ _).1 hy).1 ((hg _ _ _).1 hx).1
    · exact pts_in h ((hg _ _ _).1 hx).1
theorem pts_desc {s : RS} {l : List Int} (h : (List.range l.length).all (ptOk s l) = true) {a : Nat} {x : Int} (hx : l[a]? = some x) : ∀ (d : Nat) (y : Int), l[a + d]? = some y → y ≤ x
  | 0, y, hy => by rw [Nat.add_zero, hx] at hy; cases hy; exact Int.le_refl _
  | d + 1, y, hy => by
    obtain ⟨z, hz⟩ : ∃ z, l[a + d]? = some z := ⟨_, List.getElem?_eq_getElem (by have := (List.getElem?_eq_some_iff.1 hy).1; omega)⟩
    have := pts_desc h hx d z hz
    have := pts_dec h hz hy
    omega
theorem apart_iff {s : RS} {ps l : List Int} (ok : StoOk s ps) (h : (List.range l.length).all (ptOk s l) = true) : (List.range l.length).all (apOk s ps l) = true ↔ ∀ (a b : Nat) (x y : Int), a < b → l[a]? = some x → l[b]? = some y → ∀ p, p < ps.length → ¬ (bearB (allR s ps fun _ => true) p x = true ∧ bearB (allR s ps fun _ => true) p y = true) := by
  have hnext : ∀ (a : Nat) (x y : Int), l[a]? = some x → l[a + 1]? = some y → (apOk s ps l (a + 1) = true ↔ ∀ p, p < ps.length → ¬ (bearB (allR s ps fun _ => true) p x = true ∧ bearB (allR s ps fun _ => true) p y = true)) := fun a x y hx hy => by
    obtain ⟨b1, b2⟩ := pts_in h hx
    obtain ⟨b3, b4⟩ := pts_in h hy
    rw [apOk, if_neg (Nat.succ_ne_zero a), List.all_eq_true, Nat.add_sub_cancel, hx, hy]
    constructor
    · intro hh p hp
      obtain ⟨t, ht⟩ : ∃ t, ps[p]? = some t := ⟨_, List.getElem?_eq_getElem hp⟩
      have := hh p (List.mem_range.2 hp)
      rw [ht] at this
      rw [bear_ok ok ht b1 b2, bear_ok ok ht b3 b4]
      simp only [Bool.not_eq_true', Bool.and_eq_false_iff] at this
      rintro ⟨h1, h2⟩
      rcases this with h3 | h3
      · rw [h1] at h3; cases h3
      · rw [h2] at h3; cases h3
    · intro hh p hp
      have hp := List.mem_range.1 hp
      obtain ⟨t, ht⟩ : ∃ t, ps[p]? = some t := ⟨_, List.getElem?_eq_getElem hp⟩
      have := hh p hp
      rw [bear_ok ok ht b1 b2, bear_ok ok ht b3 b4] at this
      rw [ht]
      simp only [Bool.not_eq_true']
      rw [← Bool.and_eq_true] at this
      exact eq_false_of_ne_true this
  constructor
  · intro hh a b x y hab hx hy p hp ⟨h1, h2⟩
    have hbl := (List.getElem?_eq_some_iff.1 hy).1
    obtain ⟨z, hz⟩ : ∃ z, l[a + 1]? = some z := ⟨_, List.getElem?_eq_getElem (by omega)⟩
    have hz1 := pts_dec h hx hz
    have hz2 := pts_desc h hz (b - (a + 1)) y (by rw [show a + 1 + (b - (a + 1)) = b by omega]; exact hy)
    have hq := (hnext a x z hx hz).1 (List.all_eq_true.1 hh (a + 1) (List.mem_range.2 (by omega))) p hp
    rw [bearB_iff] at h1 h2
    exact hq ⟨bearB_iff.2 h1, bearB_iff.2 ⟨by omega, by omega⟩⟩
  · intro hh
    rw [List.all_eq_true]
    intro i hi
    rw [List.mem_range] at hi
    cases i with
    | zero => rfl
    | succ a =>
      obtain ⟨x, hx⟩ : ∃ x, l[a]? = some x := ⟨_, List.getElem?_eq_getElem (by omega)⟩
      obtain ⟨y, hy⟩ : ∃ y, l[a + 1]? = some y := ⟨_, List.getElem?_eq_getElem hi⟩
      exact (hnext a x y hx hy).2 fun p hp => hh a (a + 1) x y (by omega) hx hy p hp
theorem checkPoints_x (s : RS) (ps : List Int) (hl : ps.length ≤ 1000000) (l : List Int) (hll : l.length ≤ 1000000) (n : Nat) (m : Mem) :
    CWp Try.prog 34 [.d (stoD s), .d (intL ps), .d (intL l)] n m fun y n' m' => toD4 y = some (iD (cptE s ps l)) ∧ ∀ j, j < n → m' j = m j := by
  by_cases h0 : stoE s ps = 0
  · have ok := stoE_ok.1 h0
    have n2 := ok.n2
    have hE : cptE s ps l = if 20 < l.length then 6 else if (List.range l.length).all (ptOk s l) = true then (if (List.range l.length).all (apOk s ps l) = true then 0 else 14) else 3 := by rw [cptE, if_pos h0]
    refine cwpK tabOk Try.func34 rfl rfl (show 3 ≤ _ by decide) rfl fun _ => ?_; simp only [Try.ntmps34]
    repeat (first | (with_reducible first | refine AWi.seqK fun _ => ?_ | refine AWi.blockK fun _ => ?_ | refine KI.go ?_) | ((first | refine AWi.region tabOk ?_ | refine AWi.condK fun _ _ => ?_); simp [-getElem?_pos, z0, z1, z2, z0]) | ((first | refine AWi.ret ?_ | refine AWi.skip ?_ | refine AWi.exit ?_); try simp only [thenP]) | (with_reducible refine BB.go ?_; simp only [blockP, thenP, reduceIte]))
    refine ExecI.callC (check_w s ps hl _ _) rfl (by simp [calleeS, evList]) ?_
    rintro y n1 m1 ⟨q1, q2, q3⟩
    rw [whP, if_pos h0] at q2
    obtain ⟨w, q4, q5, rfl, hw⟩ := q2
    have hlow : ∀ j, j < n → m1 j = m j := fun j hj => (q3 j (by omega)).trans (by (try dsimp only); repeat (first | rw [setMem_lt (by omega)] | rw [putN_lt (by omega)]))
    have r0 : m1 n = some (.box 25 (sto5 s) false) := (q3 _ (by omega)).trans (by simp)
    simp
    by_cases b1 : 20 < l.length
    · have b1i : (20 : Int) < l.length := by omega
      rw [if_pos b1] at hE
      repeat (first | (with_reducible first | refine AWi.seqK fun _ => ?_ | refine AWi.blockK fun _ => ?_ | refine KI.go ?_) | ((first | refine AWi.region tabOk ?_ | refine AWi.condK fun _ _ => ?_); simp [-getElem?_pos, z0, z1, z2, r0, b1, b1i]) | ((first | refine AWi.ret ?_ | refine AWi.skip ?_ | refine AWi.exit ?_); try simp only [thenP]) | (with_reducible refine BB.go ?_; simp only [blockP, thenP, reduceIte]))
      refine RI.ret (xs := [.d (iD 6)]) (by simp [Try.results34, resSlots, resSlot, z0]) ?_
      exact ⟨by rw [hE]; rfl, hlow⟩
    have b1i : ¬ (20 : Int) < l.length := by omega
    rw [if_neg b1] at hE
    repeat (first | (with_reducible first | refine AWi.seqK fun _ => ?_ | refine AWi.blockK fun _ => ?_ | refine KI.go ?_) | ((first | refine AWi.region tabOk ?_ | refine AWi.condK fun _ _ => ?_); simp [-getElem?_pos, z0, z1, z2, r0, b1, b1i]) | ((first | refine AWi.ret ?_ | refine AWi.skip ?_ | refine AWi.exit ?_); try simp only [thenP]) | (with_reducible refine BB.go ?_; simp only [blockP, thenP, reduceIte]))
    refine ExecI.callC ((RCall.ofA (areLengths_c s l (by omega)) (svs := [.agg (sto5 s), .d (intL l)]) rfl (fun _ => none)).cwp (m := m1) (fun i b hb => by cases hb) (x := .d (bD (lenB s l))) rfl _) rfl (by simp [calleeS, evList]) ?_
    rintro y n3 m3 ⟨rfl, rfl, rfl⟩
    cases hL : lenB s l with
    | false =>
      rw [if_neg (fun h => by rw [lenB_pts.2 h] at hL; cases hL)] at hE
      simp [-getElem?_pos, z0, z1, z2]
      repeat (first | (with_reducible first | refine AWi.seqK fun _ => ?_ | refine AWi.blockK fun _ => ?_ | refine KI.go ?_) | ((first | refine AWi.region tabOk ?_ | refine AWi.condK fun _ _ => ?_); simp [-getElem?_pos, z0, z1, z2, z0]) | ((first | refine AWi.ret ?_ | refine AWi.skip ?_ | refine AWi.exit ?_); try simp only [thenP]) | (with_reducible refine BB.go ?_; simp only [blockP, thenP, reduceIte]))
      refine RI.ret (xs := [.d (iD 3)]) (by simp [Try.results34, resSlots, resSlot, z0]) ?_
      exact ⟨by rw [hE]; rfl, hlow⟩
    | true =>
      have hpt := lenB_pts.1 hL
      rw [if_pos hpt] at hE
      simp [-getElem?_pos, z0, z1, z2]
      repeat (first | (with_reducible first | refine AWi.seqK fun _ => ?_ | refine AWi.blockK fun _ => ?_ | refine KI.go ?_) | ((first | refine AWi.region tabOk ?_ | refine AWi.condK fun _ _ => ?_); simp [-getElem?_pos, z0, z1, z2, z0]) | ((first | refine AWi.ret ?_ | refine AWi.skip ?_ | refine AWi.exit ?_); try simp only [thenP]) | (with_reducible refine BB.go ?_; simp only [blockP, thenP, reduceIte]))
      refine ExecI.callC (standApart_w hw n2 l (by omega) ((List.range l.length).all (apOk s ps l)) _ (by omega) (apart_iff ok hpt)) rfl (by simp [calleeS, evList]) ?_
      rintro y n4 m4 ⟨u1, rfl, u3⟩
      cases hA : (List.range l.length).all (apOk s ps l) with
      | false =>
        rw [hA] at hE
        simp [-getElem?_pos, z0, z1, z2]
        repeat (first | (with_reducible first | refine AWi.seqK fun _ => ?_ | refine AWi.blockK fun _ => ?_ | refine KI.go ?_) | ((first | refine AWi.region tabOk ?_ | refine AWi.condK fun _ _ => ?_); simp [-getElem?_pos, z0, z1, z2, z0]) | ((first | refine AWi.ret ?_ | refine AWi.skip ?_ | refine AWi.exit ?_); try simp only [thenP]) | (with_reducible refine BB.go ?_; simp only [blockP, thenP, reduceIte]))
        refine RI.ret (xs := [.d (iD 14)]) (by simp [Try.results34, resSlots, resSlot, z0]) ?_
        exact ⟨by rw [hE]; rfl, fun j hj => (u3 j (by omega)).trans (hlow j hj)⟩
      | true =>
        rw [hA] at hE
        simp [-getElem?_pos, z0, z1, z2]
        repeat (first | (with_reducible first | refine AWi.seqK fun _ => ?_ | refine AWi.blockK fun _ => ?_ | refine KI.go ?_) | ((first | refine AWi.region tabOk ?_ | refine AWi.condK fun _ _ => ?_); simp [-getElem?_pos, z0, z1, z2, z0]) | ((first | refine AWi.ret ?_ | refine AWi.skip ?_ | refine AWi.exit ?_); try simp only [thenP]) | (with_reducible refine BB.go ?_; simp only [blockP, thenP, reduceIte]))
        refine RI.ret (xs := [.d (iD 0)]) (by simp [Try.results34, resSlots, resSlot, z0]) ?_
        exact ⟨by rw [hE]; rfl, fun j hj => (u3 j (by omega)).trans (hlow j hj)⟩
  · have hE : cptE s ps l = stoE s ps := by rw [cptE, if_neg h0]
    refine cwpK tabOk Try.func34 rfl rfl (show 3 ≤ _ by decide) rfl fun _ => ?_; simp only [Try.ntmps34]
    repeat (first | (with_reducible first | refine AWi.seqK fun _ => ?_ | refine AWi.blockK fun _ => ?_ | refine KI.go ?_) | ((first | refine AWi.region tabOk ?_ | refine AWi.condK fun _ _ => ?_); simp [-getElem?_pos, z0, z1, z2, z0]) | ((first | refine AWi.ret ?_ | refine AWi.skip ?_ | refine AWi.exit ?_); try simp only [thenP]) | (with_reducible refine BB.go ?_; simp only [blockP, thenP, reduceIte]))
    refine ExecI.callC (check_w s ps hl _ _) rfl (by simp [calleeS, evList]) ?_
    rintro y n1 m1 ⟨q1, q2, q3⟩
    rw [whP, if_neg h0] at q2
    subst q2
    have hlow : ∀ j, j < n → m1 j = m j := fun j hj => (q3 j (by omega)).trans (by (try dsimp only); repeat (first | rw [setMem_lt (by omega)] | rw [putN_lt (by omega)]))
    simp
    repeat (first | (with_reducible first | refine AWi.seqK fun _ => ?_ | refine AWi.blockK fun _ => ?_ | refine KI.go ?_) | ((first | refine AWi.region tabOk ?_ | refine AWi.condK fun _ _ => ?_); simp [-getElem?_pos, z0, z1, z2, h0]) | ((first | refine AWi.ret ?_ | refine AWi.skip ?_ | refine AWi.exit ?_); try simp only [thenP]) | (with_reducible refine BB.go ?_; simp only [blockP, thenP, reduceIte]))
    refine RI.ret (xs := [.d (iD (stoE s ps))]) (by simp [Try.results34, resSlots, resSlot, z0]) ?_
    exact ⟨by rw [hE]; rfl, hlow⟩
theorem checkPoints_c (s : RS) (ps : List Int) (hl : ps.length ≤ 1000000) (l : List Int) (hll : l.length ≤ 1000000) : ACall Try.prog 34 [stoD s, intL ps, intL l] (iD (cptE s ps l)) :=
  ACall.ofR (RCall.of4 (n0 := 0) fun n _ => (checkPoints_x s ps hl l hll n _).mono fun _ _ _ h => h)
theorem rimBests_c (s : RS) (ps l : List Int) : ACall Try.prog 5 [stoD s, intL ps, intL l] (bD true) := by
  have cm := many_c ps
  have cw := works_call
  by_cases g : 20 < ps.length
  · rw [decide_eq_true g] at cm
    refine acallK tabOk Try.func5 rfl rfl (show 3 ≤ _ by decide) rfl fun _ => ?_; simp only [Try.ntmps5]
    repeat (first | (with_reducible first | refine zq1 fun _ => ?_ | refine zq2 fun _ => ?_ | refine zq3 ?_) | ((first | refine zq4 ?_ | refine zq5 fun _ _ => ?_ | refine zq6 ?_); simp [-getElem?_pos, z0, z1, z2, z0]) | ((first | refine AWp.ret ?_ | refine AWp.skip ?_ | refine AWp.exit ?_); try simp only [thenP]) | (with_reducible refine zq7 ?_; simp only [blockP, thenP, reduceIte]) | with_reducible refine zq8 ?_)
    (first | refine Exec0.call [] cm ?_ rfl ?_ ?_ | refine Exec.call [] cm ?_ rfl ?_ ?_); (focus simp [-getElem?_pos, z0]); (focus simp [-getElem?_pos, z0, z1, z2, z0]); simp [-getElem?_pos, z0, z1, z2, z0]
    repeat (first | (with_reducible first | refine zq1 fun _ => ?_ | refine zq2 fun _ => ?_ | refine zq3 ?_) | ((first | refine zq4 ?_ | refine zq5 fun _ _ => ?_ | refine zq6 ?_); simp [-getElem?_pos, z0, z1, z2, z0]) | ((first | refine AWp.ret ?_ | refine AWp.skip ?_ | refine AWp.exit ?_); try simp only [thenP]) | (with_reducible refine zq7 ?_; simp only [blockP, thenP, reduceIte]) | with_reducible refine zq8 ?_)
    (first | refine Exec0.call [] cw ?_ rfl ?_ ?_ | refine Exec.call [] cw ?_ rfl ?_ ?_); (focus simp [-getElem?_pos, z0]); (focus simp [-getElem?_pos, z0, z1, z2, z0]); simp [-getElem?_pos, z0, z1, z2, z0]
    repeat (first | (with_reducible first | refine zq1 fun _ => ?_ | refine zq2 fun _ => ?_ | refine zq3 ?_) | ((first | refine zq4 ?_ | refine zq5 fun _ _ => ?_ | refine zq6 ?_); simp [-getElem?_pos, z0, z1, z2, z0]) | ((first | refine AWp.ret ?_ | refine AWp.skip ?_ | refine AWp.exit ?_); try simp only [thenP]) | (with_reducible refine zq7 ?_; simp only [blockP, thenP, reduceIte]) | with_reducible refine zq8 ?_)
    (first | refine RR.ret ?_ | refine RR.normal ?_); simp [z0]
  rw [decide_eq_false g] at cm
  have hl : ps.length ≤ 1000000 := by omega
  by_cases g2 : 30 < l.length
  · have g2i : (30 : Int) < l.length := by omega
    refine acallK tabOk Try.func5 rfl rfl (show 3 ≤ _ by decide) rfl fun _ => ?_; simp only [Try.ntmps5]
    repeat (first | (with_reducible first | refine zq1 fun _ => ?_ | refine zq2 fun _ => ?_ | refine zq3 ?_) | ((first | refine zq4 ?_ | refine zq5 fun _ _ => ?_ | refine zq6 ?_); simp [-getElem?_pos, z0, z1, z2, g2, g2i]) | ((first | refine AWp.ret ?_ | refine AWp.skip ?_ | refine AWp.exit ?_); try simp only [thenP]) | (with_reducible refine zq7 ?_; simp only [blockP, thenP, reduceIte]) | with_reducible refine zq8 ?_)
    (first | refine Exec0.call [] cm ?_ rfl ?_ ?_ | refine Exec.call [] cm ?_ rfl ?_ ?_); (focus simp [-getElem?_pos, g2, g2i]); (focus simp [-getElem?_pos, z0, z1, z2, g2, g2i]); simp [-getElem?_pos, z0, z1, z2, g2, g2i]
    repeat (first | (with_reducible first | refine zq1 fun _ => ?_ | refine zq2 fun _ => ?_ | refine zq3 ?_) | ((first | refine zq4 ?_ | refine zq5 fun _ _ => ?_ | refine zq6 ?_); simp [-getElem?_pos, z0, z1, z2, g2, g2i]) | ((first | refine AWp.ret ?_ | refine AWp.skip ?_ | refine AWp.exit ?_); try simp only [thenP]) | (with_reducible refine zq7 ?_; simp only [blockP, thenP, reduceIte]) | with_reducible refine zq8 ?_)
    (first | refine Exec0.call [] cw ?_ rfl ?_ ?_ | refine Exec.call [] cw ?_ rfl ?_ ?_); (focus simp [-getElem?_pos, z0]); (focus simp [-getElem?_pos, z0, z1, z2, z0]); simp [-getElem?_pos, z0, z1, z2, z0]
    repeat (first | (with_reducible first | refine zq1 fun _ => ?_ | refine zq2 fun _ => ?_ | refine zq3 ?_) | ((first | refine zq4 ?_ | refine zq5 fun _ _ => ?_ | refine zq6 ?_); simp [-getElem?_pos, z0, z1, z2, z0]) | ((first | refine AWp.ret ?_ | refine AWp.skip ?_ | refine AWp.exit ?_); try simp only [thenP]) | (with_reducible refine zq7 ?_; simp only [blockP, thenP, reduceIte]) | with_reducible refine zq8 ?_)
    (first | refine RR.ret ?_ | refine RR.normal ?_); simp [z0]
  have g2i : ¬ (30 : Int) < l.length := by omega
  have hll : l.length ≤ 1000000 := by omega
  have hfew := planO_few (s := s) (ps := ps) (by omega)
  have c1 := plan_c s ps hl
  have c2 := refPlan_c s ps hl
  have c3 := points_c s ps hl hfew
  have c4 := refPoints_c s ps hl
  have c5 := checkPoints_c s ps hl l hll
  have c6 := refCheckPoints_c s ps hl l hll
  have c7 := runsSame_c (planO s ps) (by omega)
  have c8 := longsSame_c (ptsO s ps) (by rw [ptsO, List.length_map]; omega)
  generalize cptE s ps l = e1 at *
  generalize planE s ps = e2 at *
  generalize ptsO s ps = v2 at *
  generalize planO s ps = v1 at *
  refine acallK tabOk Try.func5 rfl rfl (show 3 ≤ _ by decide) rfl fun _ => ?_; simp only [Try.ntmps5]
  repeat (first | (with_reducible first | refine zq1 fun _ => ?_ | refine zq2 fun _ => ?_ | refine zq3 ?_) | ((first | refine zq4 ?_ | refine zq5 fun _ _ => ?_ | refine zq6 ?_); simp [-getElem?_pos, z0, z1, z2, g2, g2i]) | ((first | refine AWp.ret ?_ | refine AWp.skip ?_ | refine AWp.exit ?_); try simp only [thenP]) | (with_reducible refine zq7 ?_; simp only [blockP, thenP, reduceIte]) | with_reducible refine zq8 ?_)
  (first | refine Exec0.call [] cm ?_ rfl ?_ ?_ | refine Exec.call [] cm ?_ rfl ?_ ?_); (focus simp [-getElem?_pos, g2, g2i]); (focus simp [-getElem?_pos, z0, z1, z2, g2, g2i]); simp [-getElem?_pos, z0, z1, z2, g2, g2i]
  repeat (first | (with_reducible first | refine zq1 fun _ => ?_ | refine zq2 fun _ => ?_ | refine zq3 ?_) | ((first | refine zq4 ?_ | refine zq5 fun _ _ => ?_ | refine zq6 ?_); simp [-getElem?_pos, z0, z1, z2, g2, g2i]) | ((first | refine AWp.ret ?_ | refine AWp.skip ?_ | refine AWp.exit ?_); try simp only [thenP]) | (with_reducible refine zq7 ?_; simp only [blockP, thenP, reduceIte]) | with_reducible refine zq8 ?_)
  (first | refine Exec0.call [] c1 ?_ rfl ?_ ?_ | refine Exec.call [] c1 ?_ rfl ?_ ?_); (focus simp [-getElem?_pos, z0]); (focus simp [-getElem?_pos, z0, z1, z2, z0]); simp [-getElem?_pos, z0, z1, z2, z0]
  repeat (first | (with_reducible first | refine zq1 fun _ => ?_ | refine zq2 fun _ => ?_ | refine zq3 ?_) | ((first | refine zq4 ?_ | refine zq5 fun _ _ => ?_ | refine zq6 ?_); simp [-getElem?_pos, z0, z1, z2, z0]) | ((first | refine AWp.ret ?_ | refine AWp.skip ?_ | refine AWp.exit ?_); try simp only [thenP]) | (with_reducible refine zq7 ?_; simp only [blockP, thenP, reduceIte]) | with_reducible refine zq8 ?_)
  (first | refine Exec0.call [] c2 ?_ rfl ?_ ?_ | refine Exec.call [] c2 ?_ rfl ?_ ?_); (focus simp [-getElem?_pos, z0]); (focus simp [-getElem?_pos, z0, z1, z2, z0]); simp [-getElem?_pos, z0, z1, z2, z0]
  repeat (first | (with_reducible first | refine zq1 fun _ => ?_ | refine zq2 fun _ => ?_ | refine zq3 ?_) | ((first | refine zq4 ?_ | refine zq5 fun _ _ => ?_ | refine zq6 ?_); simp [-getElem?_pos, z0, z1, z2, z0]) | ((first | refine AWp.ret ?_ | refine AWp.skip ?_ | refine AWp.exit ?_); try simp only [thenP]) | (with_reducible refine zq7 ?_; simp only [blockP, thenP, reduceIte]) | with_reducible refine zq8 ?_)
  (first | refine Exec0.call [] c3 ?_ rfl ?_ ?_ | refine Exec.call [] c3 ?_ rfl ?_ ?_); (focus simp [-getElem?_pos, z0]); (focus simp [-getElem?_pos, z0, z1, z2, z0]); simp [-getElem?_pos, z0, z1, z2, z0]
  repeat (first | (with_reducible first | refine zq1 fun _ => ?_ | refine zq2 fun _ => ?_ | refine zq3 ?_) | ((first | refine zq4 ?_ | refine zq5 fun _ _ => ?_ | refine zq6 ?_); simp [-getElem?_pos, z0, z1, z2, z0]) | ((first | refine AWp.ret ?_ | refine AWp.skip ?_ | refine AWp.exit ?_); try simp only [thenP]) | (with_reducible refine zq7 ?_; simp only [blockP, thenP, reduceIte]) | with_reducible refine zq8 ?_)
  (first | refine Exec0.call [] c4 ?_ rfl ?_ ?_ | refine Exec.call [] c4 ?_ rfl ?_ ?_); (focus simp [-getElem?_pos, z0]); (focus simp [-getElem?_pos, z0, z1, z2, z0]); simp [-getElem?_pos, z0, z1, z2, z0]
  repeat (first | (with_reducible first | refine zq1 fun _ => ?_ | refine zq2 fun _ => ?_ | refine zq3 ?_) | ((first | refine zq4 ?_ | refine zq5 fun _ _ => ?_ | refine zq6 ?_); simp [-getElem?_pos, z0, z1, z2, z0]) | ((first | refine AWp.ret ?_ | refine AWp.skip ?_ | refine AWp.exit ?_); try simp only [thenP]) | (with_reducible refine zq7 ?_; simp only [blockP, thenP, reduceIte]) | with_reducible refine zq8 ?_)
  (first | refine Exec0.call [] c7 ?_ rfl ?_ ?_ | refine Exec.call [] c7 ?_ rfl ?_ ?_); (focus simp [-getElem?_pos, z0]); (focus simp [-getElem?_pos, z0, z1, z2, z0]); simp [-getElem?_pos, z0, z1, z2, z0]
  repeat (first | (with_reducible first | refine zq1 fun _ => ?_ | refine zq2 fun _ => ?_ | refine zq3 ?_) | ((first | refine zq4 ?_ | refine zq5 fun _ _ => ?_ | refine zq6 ?_); simp [-getElem?_pos, z0, z1, z2, z0]) | ((first | refine AWp.ret ?_ | refine AWp.skip ?_ | refine AWp.exit ?_); try simp only [thenP]) | (with_reducible refine zq7 ?_; simp only [blockP, thenP, reduceIte]) | with_reducible refine zq8 ?_)
  (first | refine Exec0.call [] c8 ?_ rfl ?_ ?_ | refine Exec.call [] c8 ?_ rfl ?_ ?_); (focus simp [-getElem?_pos, z0]); (focus simp [-getElem?_pos, z0, z1, z2, z0]); simp [-getElem?_pos, z0, z1, z2, z0]
  repeat (first | (with_reducible first | refine zq1 fun _ => ?_ | refine zq2 fun _ => ?_ | refine zq3 ?_) | ((first | refine zq4 ?_ | refine zq5 fun _ _ => ?_ | refine zq6 ?_); simp [-getElem?_pos, z0, z1, z2, z0]) | ((first | refine AWp.ret ?_ | refine AWp.skip ?_ | refine AWp.exit ?_); try simp only [thenP]) | (with_reducible refine zq7 ?_; simp only [blockP, thenP, reduceIte]) | with_reducible refine zq8 ?_)
  (first | refine Exec0.call [] c5 ?_ rfl ?_ ?_ | refine Exec.call [] c5 ?_ rfl ?_ ?_); (focus simp [-getElem?_pos, z0]); (focus simp [-getElem?_pos, z0, z1, z2, z0]); simp [-getElem?_pos, z0, z1, z2, z0]
  repeat (first | (with_reducible first | refine zq1 fun _ => ?_ | refine zq2 fun _ => ?_ | refine zq3 ?_) | ((first | refine zq4 ?_ | refine zq5 fun _ _ => ?_ | refine zq6 ?_); simp [-getElem?_pos, z0, z1, z2, z0]) | ((first | refine AWp.ret ?_ | refine AWp.skip ?_ | refine AWp.exit ?_); try simp only [thenP]) | (with_reducible refine zq7 ?_; simp only [blockP, thenP, reduceIte]) | with_reducible refine zq8 ?_)
  (first | refine Exec0.call [] c6 ?_ rfl ?_ ?_ | refine Exec.call [] c6 ?_ rfl ?_ ?_); (focus simp [-getElem?_pos, z0]); (focus simp [-getElem?_pos, z0, z1, z2, z0]); simp [-getElem?_pos, z0, z1, z2, z0]
  repeat (first | (with_reducible first | refine zq1 fun _ => ?_ | refine zq2 fun _ => ?_ | refine zq3 ?_) | ((first | refine zq4 ?_ | refine zq5 fun _ _ => ?_ | refine zq6 ?_); simp [-getElem?_pos, z0, z1, z2, z0]) | ((first | refine AWp.ret ?_ | refine AWp.skip ?_ | refine AWp.exit ?_); try simp only [thenP]) | (with_reducible refine zq7 ?_; simp only [blockP, thenP, reduceIte]) | with_reducible refine zq8 ?_)
  (first | refine Exec0.call [] cw ?_ rfl ?_ ?_ | refine Exec.call [] cw ?_ rfl ?_ ?_); (focus simp [-getElem?_pos, z0]); (focus simp [-getElem?_pos, z0, z1, z2, z0]); simp [-getElem?_pos, z0, z1, z2, z0]
  repeat (first | (with_reducible first | refine zq1 fun _ => ?_ | refine zq2 fun _ => ?_ | refine zq3 ?_) | ((first | refine zq4 ?_ | refine zq5 fun _ _ => ?_ | refine zq6 ?_); simp [-getElem?_pos, z0, z1, z2, z0]) | ((first | refine AWp.ret ?_ | refine AWp.skip ?_ | refine AWp.exit ?_); try simp only [thenP]) | (with_reducible refine zq7 ?_; simp only [blockP, thenP, reduceIte]) | with_reducible refine zq8 ?_)
  (first | refine RR.ret ?_ | refine RR.normal ?_); simp [z0]
end Go.Proofs.Ytdkneonokbakjaa.Eng

namespace Go.Proofs.Ytdkneonokbakjaa
open Go.ChangeShapes Go.WideShapes Go.ChangeAt Go.RowKit
theorem post_later {H : Type} {enc : TypeId × Value → H} {P : Program} {f : Func} {s : ChangeSpec} {apart fresh handsOn again : Bool} {W W' : World} {args : Array Value} {v : Value} {ds gs : List (DataW H)} {before pa pv : List MemPlace}
    (hW : DataW.Whole enc P f.params.toList s.vars apart W args.toList ds gs before) (hsplit : before = pa ++ pv)
    (hr : ∀ (b : Nat) (sp : Nat → Bool) (hd : Bool), DataW.TrodAll enc P W' b sp hd f.resultTypes.toList (v.resultList f.resultTypes.size) (s.fn H (ds ++ gs)).results [])
    (ha : ∀ sp : Nat → Bool, (∀ p ∈ before, sp p.block = true) → DataW.TrodAll enc P W' 0 sp true f.params.toList args.toList (s.fn H (ds ++ gs)).args pa)
    (hv : ∀ sp : Nat → Bool, (∀ p ∈ before, sp p.block = true) → DataW.TrodVars enc P W' sp s.vars (s.fn H (ds ++ gs)).vars pv)
    (hk : ∀ (j : Nat) (t : TypeId) (r : Value), f.resultTypes[j]? = some t → (v.resultList f.resultTypes.size)[j]? = some r → Value.okWide P W' .any 0 t r)
    (hb : Below W.heap.size W W') : s.post enc P f apart fresh handsOn again W args v W' := by
  have inside : ∀ p, p ∈ before → p.block < W.heap.size := fun p hp => hW.lt p hp
  have keep : ∀ p ∈ before, (decide ((p : MemPlace).block < W.heap.size)) = true := fun p hp => decide_eq_true (inside p hp)
  refine ⟨ds, gs, before, [], pa, pv, hW, hr _ _ _, ha (fun b => decide (b < W.heap.size)) keep, hv (fun b => decide (b < W.heap.size)) keep, ?_, ?_⟩
  · refine World.keptBut_mono (fun p hp => ⟨hp, ?_⟩) (hb.frame (· ∈ before))
    right
    rw [hsplit, List.mem_append] at hp
    exact hp
  · intro _
    obtain ⟨_, _, _, _, _, hz, hn⟩ := hW
    have e : [] ++ pa ++ pv = before := by rw [hsplit, List.nil_append]
    refine ⟨hk, _, _, [] ++ pa ++ pv, ⟨[] ++ pa, pv, trodAll_append (ha _ fun _ _ => rfl) (hr _ _ _), hv _ fun _ _ => rfl, rfl, fun b off hp => ?_, fun h => ?_⟩, fun p hp _ => ?_⟩
    · rw [e] at hp
      rw [hb.frozen (inside _ hp)]
      exact hz b off hp
    · have := hn h
      rw [← e] at this
      simpa using this
    · rw [e] at hp
      simpa using hp
end Go.Proofs.Ytdkneonokbakjaa
