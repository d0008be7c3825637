/-
  RimPlans returns true, for every stone, pulleys and plan: which plans are right, and which speeds the rim can have with one, are what the definitions say, or the error. No condition.
-/
import Derived.Test.YtdkneonokbakjaaDp5
import Derived.Deep.OwnRows
import Derived.Laws.CopyOwn
import Derived.Test.YtdkneonokbakjaaRows
import Derived.ProofKit
import Derived.OpenShut
import Derived.Below
import Derived.ChangeSame
import Derived.ReadAgain
import Derived.Deep.Slices
set_option linter.unusedSimpArgs false
set_option linter.unusedVariables false
noncomputable section
namespace Go.Proofs.Ytdkneonokbakjaa.Eng
open Go.RowKit
set_option maxRecDepth 100000
set_option maxHeartbeats 8000000
@[simp] theorem nk1 (n : Nat) : (n = n + 1) = False := by simp only [eq_iff_iff, iff_false]; omega
@[simp] theorem mk1 (n : Nat) : (n + 1 = n) = False := by simp only [eq_iff_iff, iff_false]; omega
@[simp] theorem nk2 (n : Nat) : (n = n + 1 + 1) = False := by simp only [eq_iff_iff, iff_false]; omega
@[simp] theorem mk2 (n : Nat) : (n + 1 + 1 = n) = False := by simp only [eq_iff_iff, iff_false]; omega
@[simp] theorem nk3 (n : Nat) : (n = n + 1 + 1 + 1) = False := by simp only [eq_iff_iff, iff_false]; omega
@[simp] theorem mk3 (n : Nat) : (n + 1 + 1 + 1 = n) = False := by simp only [eq_iff_iff, iff_false]; omega
@[simp] theorem nk4 (n : Nat) : (n = n + 1 + 1 + 1 + 1) = False := by simp only [eq_iff_iff, iff_false]; omega
@[simp] theorem mk4 (n : Nat) : (n + 1 + 1 + 1 + 1 = n) = False := by simp only [eq_iff_iff, iff_false]; omega
@[simp] theorem nk5 (n : Nat) : (n = n + 1 + 1 + 1 + 1 + 1) = False := by simp only [eq_iff_iff, iff_false]; omega
@[simp] theorem mk5 (n : Nat) : (n + 1 + 1 + 1 + 1 + 1 = n) = False := by simp only [eq_iff_iff, iff_false]; omega
@[simp] theorem nk6 (n : Nat) : (n = n + 1 + 1 + 1 + 1 + 1 + 1) = False := by simp only [eq_iff_iff, iff_false]; omega
@[simp] theorem mk6 (n : Nat) : (n + 1 + 1 + 1 + 1 + 1 + 1 = n) = False := by simp only [eq_iff_iff, iff_false]; omega
@[simp] theorem nk7 (n : Nat) : (n = n + 1 + 1 + 1 + 1 + 1 + 1 + 1) = False := by simp only [eq_iff_iff, iff_false]; omega
@[simp] theorem mk7 (n : Nat) : (n + 1 + 1 + 1 + 1 + 1 + 1 + 1 = n) = False := by simp only [eq_iff_iff, iff_false]; omega
@[simp] theorem nk8 (n : Nat) : (n = n + 1 + 1 + 1 + 1 + 1 + 1 + 1 + 1) = False := by simp only [eq_iff_iff, iff_false]; omega
@[simp] theorem mk8 (n : Nat) : (n + 1 + 1 + 1 + 1 + 1 + 1 + 1 + 1 = n) = False := by simp only [eq_iff_iff, iff_false]; omega
@[simp] theorem nk9 (n : Nat) : (n = n + 1 + 1 + 1 + 1 + 1 + 1 + 1 + 1 + 1) = False := by simp only [eq_iff_iff, iff_false]; omega
@[simp] theorem mk9 (n : Nat) : (n + 1 + 1 + 1 + 1 + 1 + 1 + 1 + 1 + 1 = n) = False := by simp only [eq_iff_iff, iff_false]; omega
@[simp] theorem nk10 (n : Nat) : (n = n + 1 + 1 + 1 + 1 + 1 + 1 + 1 + 1 + 1 + 1) = False := by simp only [eq_iff_iff, iff_false]; omega
@[simp] theorem mk10 (n : Nat) : (n + 1 + 1 + 1 + 1 + 1 + 1 + 1 + 1 + 1 + 1 = n) = False := by simp only [eq_iff_iff, iff_false]; omega
@[simp] theorem nk11 (n : Nat) : (n = n + 1 + 1 + 1 + 1 + 1 + 1 + 1 + 1 + 1 + 1 + 1) = False := by simp only [eq_iff_iff, iff_false]; omega
@[simp] theorem mk11 (n : Nat) : (n + 1 + 1 + 1 + 1 + 1 + 1 + 1 + 1 + 1 + 1 + 1 = n) = False := by simp only [eq_iff_iff, iff_false]; omega
@[simp] theorem nk12 (n : Nat) : (n = n + 1 + 1 + 1 + 1 + 1 + 1 + 1 + 1 + 1 + 1 + 1 + 1) = False := by simp only [eq_iff_iff, iff_false]; omega
@[simp] theorem mk12 (n : Nat) : (n + 1 + 1 + 1 + 1 + 1 + 1 + 1 + 1 + 1 + 1 + 1 + 1 = n) = False := by simp only [eq_iff_iff, iff_false]; omega
@[simp] theorem nk13 (n : Nat) : (n = n + 1 + 1 + 1 + 1 + 1 + 1 + 1 + 1 + 1 + 1 + 1 + 1 + 1) = False := by simp only [eq_iff_iff, iff_false]; omega
@[simp] theorem mk13 (n : Nat) : (n + 1 + 1 + 1 + 1 + 1 + 1 + 1 + 1 + 1 + 1 + 1 + 1 + 1 = n) = False := by simp only [eq_iff_iff, iff_false]; omega
@[simp] theorem nk14 (n : Nat) : (n = n + 1 + 1 + 1 + 1 + 1 + 1 + 1 + 1 + 1 + 1 + 1 + 1 + 1 + 1) = False := by simp only [eq_iff_iff, iff_false]; omega
@[simp] theorem mk14 (n : Nat) : (n + 1 + 1 + 1 + 1 + 1 + 1 + 1 + 1 + 1 + 1 + 1 + 1 + 1 + 1 = n) = False := by simp only [eq_iff_iff, iff_false]; omega
@[simp] theorem nk15 (n : Nat) : (n = n + 1 + 1 + 1 + 1 + 1 + 1 + 1 + 1 + 1 + 1 + 1 + 1 + 1 + 1 + 1) = False := by simp only [eq_iff_iff, iff_false]; omega
@[simp] theorem mk15 (n : Nat) : (n + 1 + 1 + 1 + 1 + 1 + 1 + 1 + 1 + 1 + 1 + 1 + 1 + 1 + 1 + 1 = n) = False := by simp only [eq_iff_iff, iff_false]; omega
@[simp] theorem nk16 (n : Nat) : (n = n + 1 + 1 + 1 + 1 + 1 + 1 + 1 + 1 + 1 + 1 + 1 + 1 + 1 + 1 + 1 + 1) = False := by simp only [eq_iff_iff, iff_false]; omega
@[simp] theorem mk16 (n : Nat) : (n + 1 + 1 + 1 + 1 + 1 + 1 + 1 + 1 + 1 + 1 + 1 + 1 + 1 + 1 + 1 + 1 = n) = False := by simp only [eq_iff_iff, iff_false]; omega
@[simp] theorem nk17 (n : Nat) : (n = n + 1 + 1 + 1 + 1 + 1 + 1 + 1 + 1 + 1 + 1 + 1 + 1 + 1 + 1 + 1 + 1 + 1) = False := by simp only [eq_iff_iff, iff_false]; omega
@[simp] theorem mk17 (n : Nat) : (n + 1 + 1 + 1 + 1 + 1 + 1 + 1 + 1 + 1 + 1 + 1 + 1 + 1 + 1 + 1 + 1 + 1 = n) = False := by simp only [eq_iff_iff, iff_false]; omega
@[simp] theorem nk18 (n : Nat) : (n = n + 1 + 1 + 1 + 1 + 1 + 1 + 1 + 1 + 1 + 1 + 1 + 1 + 1 + 1 + 1 + 1 + 1 + 1) = False := by simp only [eq_iff_iff, iff_false]; omega
@[simp] theorem mk18 (n : Nat) : (n + 1 + 1 + 1 + 1 + 1 + 1 + 1 + 1 + 1 + 1 + 1 + 1 + 1 + 1 + 1 + 1 + 1 + 1 = n) = False := by simp only [eq_iff_iff, iff_false]; omega
@[simp] theorem nk19 (n : Nat) : (n = n + 1 + 1 + 1 + 1 + 1 + 1 + 1 + 1 + 1 + 1 + 1 + 1 + 1 + 1 + 1 + 1 + 1 + 1 + 1) = False := by simp only [eq_iff_iff, iff_false]; omega
@[simp] theorem mk19 (n : Nat) : (n + 1 + 1 + 1 + 1 + 1 + 1 + 1 + 1 + 1 + 1 + 1 + 1 + 1 + 1 + 1 + 1 + 1 + 1 + 1 = n) = False := by simp only [eq_iff_iff, iff_false]; omega
@[simp] theorem nk20 (n : Nat) : (n = n + 1 + 1 + 1 + 1 + 1 + 1 + 1 + 1 + 1 + 1 + 1 + 1 + 1 + 1 + 1 + 1 + 1 + 1 + 1 + 1) = False := by simp only [eq_iff_iff, iff_false]; omega
@[simp] theorem mk20 (n : Nat) : (n + 1 + 1 + 1 + 1 + 1 + 1 + 1 + 1 + 1 + 1 + 1 + 1 + 1 + 1 + 1 + 1 + 1 + 1 + 1 + 1 = n) = False := by simp only [eq_iff_iff, iff_false]; omega
@[simp] theorem nk21 (n : Nat) : (n = n + 1 + 1 + 1 + 1 + 1 + 1 + 1 + 1 + 1 + 1 + 1 + 1 + 1 + 1 + 1 + 1 + 1 + 1 + 1 + 1 + 1) = False := by simp only [eq_iff_iff, iff_false]; omega
@[simp] theorem mk21 (n : Nat) : (n + 1 + 1 + 1 + 1 + 1 + 1 + 1 + 1 + 1 + 1 + 1 + 1 + 1 + 1 + 1 + 1 + 1 + 1 + 1 + 1 + 1 = n) = False := by simp only [eq_iff_iff, iff_false]; omega
@[simp] theorem nk22 (n : Nat) : (n = n + 1 + 1 + 1 + 1 + 1 + 1 + 1 + 1 + 1 + 1 + 1 + 1 + 1 + 1 + 1 + 1 + 1 + 1 + 1 + 1 + 1 + 1) = False := by simp only [eq_iff_iff, iff_false]; omega
@[simp] theorem mk22 (n : Nat) : (n + 1 + 1 + 1 + 1 + 1 + 1 + 1 + 1 + 1 + 1 + 1 + 1 + 1 + 1 + 1 + 1 + 1 + 1 + 1 + 1 + 1 + 1 = n) = False := by simp only [eq_iff_iff, iff_false]; omega
@[simp] theorem nk23 (n : Nat) : (n = n + 1 + 1 + 1 + 1 + 1 + 1 + 1 + 1 + 1 + 1 + 1 + 1 + 1 + 1 + 1 + 1 + 1 + 1 + 1 + 1 + 1 + 1 + 1) = False := by simp only [eq_iff_iff, iff_false]; omega
@[simp] theorem mk23 (n : Nat) : (n + 1 + 1 + 1 + 1 + 1 + 1 + 1 + 1 + 1 + 1 + 1 + 1 + 1 + 1 + 1 + 1 + 1 + 1 + 1 + 1 + 1 + 1 + 1 = n) = False := by simp only [eq_iff_iff, iff_false]; omega
@[simp] theorem nk24 (n : Nat) : (n = n + 1 + 1 + 1 + 1 + 1 + 1 + 1 + 1 + 1 + 1 + 1 + 1 + 1 + 1 + 1 + 1 + 1 + 1 + 1 + 1 + 1 + 1 + 1 + 1) = False := by simp only [eq_iff_iff, iff_false]; omega
@[simp] theorem mk24 (n : Nat) : (n + 1 + 1 + 1 + 1 + 1 + 1 + 1 + 1 + 1 + 1 + 1 + 1 + 1 + 1 + 1 + 1 + 1 + 1 + 1 + 1 + 1 + 1 + 1 + 1 = n) = False := by simp only [eq_iff_iff, iff_false]; omega
@[simp] theorem nk25 (n : Nat) : (n = n + 1 + 1 + 1 + 1 + 1 + 1 + 1 + 1 + 1 + 1 + 1 + 1 + 1 + 1 + 1 + 1 + 1 + 1 + 1 + 1 + 1 + 1 + 1 + 1 + 1) = False := by simp only [eq_iff_iff, iff_false]; omega
@[simp] theorem mk25 (n : Nat) : (n + 1 + 1 + 1 + 1 + 1 + 1 + 1 + 1 + 1 + 1 + 1 + 1 + 1 + 1 + 1 + 1 + 1 + 1 + 1 + 1 + 1 + 1 + 1 + 1 + 1 = n) = False := by simp only [eq_iff_iff, iff_false]; omega
@[simp] theorem nk26 (n : Nat) : (n = n + 1 + 1 + 1 + 1 + 1 + 1 + 1 + 1 + 1 + 1 + 1 + 1 + 1 + 1 + 1 + 1 + 1 + 1 + 1 + 1 + 1 + 1 + 1 + 1 + 1 + 1) = False := by simp only [eq_iff_iff, iff_false]; omega
@[simp] theorem mk26 (n : Nat) : (n + 1 + 1 + 1 + 1 + 1 + 1 + 1 + 1 + 1 + 1 + 1 + 1 + 1 + 1 + 1 + 1 + 1 + 1 + 1 + 1 + 1 + 1 + 1 + 1 + 1 + 1 = n) = False := by simp only [eq_iff_iff, iff_false]; omega
@[simp] theorem nk27 (n : Nat) : (n = n + 1 + 1 + 1 + 1 + 1 + 1 + 1 + 1 + 1 + 1 + 1 + 1 + 1 + 1 + 1 + 1 + 1 + 1 + 1 + 1 + 1 + 1 + 1 + 1 + 1 + 1 + 1) = False := by simp only [eq_iff_iff, iff_false]; omega
@[simp] theorem mk27 (n : Nat) : (n + 1 + 1 + 1 + 1 + 1 + 1 + 1 + 1 + 1 + 1 + 1 + 1 + 1 + 1 + 1 + 1 + 1 + 1 + 1 + 1 + 1 + 1 + 1 + 1 + 1 + 1 + 1 = n) = False := by simp only [eq_iff_iff, iff_false]; omega
@[simp] theorem nk28 (n : Nat) : (n = n + 1 + 1 + 1 + 1 + 1 + 1 + 1 + 1 + 1 + 1 + 1 + 1 + 1 + 1 + 1 + 1 + 1 + 1 + 1 + 1 + 1 + 1 + 1 + 1 + 1 + 1 + 1 + 1) = False := by simp only [eq_iff_iff, iff_false]; omega
@[simp] theorem mk28 (n : Nat) : (n + 1 + 1 + 1 + 1 + 1 + 1 + 1 + 1 + 1 + 1 + 1 + 1 + 1 + 1 + 1 + 1 + 1 + 1 + 1 + 1 + 1 + 1 + 1 + 1 + 1 + 1 + 1 + 1 = n) = False := by simp only [eq_iff_iff, iff_false]; omega
@[simp] theorem nk29 (n : Nat) : (n = n + 1 + 1 + 1 + 1 + 1 + 1 + 1 + 1 + 1 + 1 + 1 + 1 + 1 + 1 + 1 + 1 + 1 + 1 + 1 + 1 + 1 + 1 + 1 + 1 + 1 + 1 + 1 + 1 + 1) = False := by simp only [eq_iff_iff, iff_false]; omega
@[simp] theorem mk29 (n : Nat) : (n + 1 + 1 + 1 + 1 + 1 + 1 + 1 + 1 + 1 + 1 + 1 + 1 + 1 + 1 + 1 + 1 + 1 + 1 + 1 + 1 + 1 + 1 + 1 + 1 + 1 + 1 + 1 + 1 + 1 = n) = False := by simp only [eq_iff_iff, iff_false]; omega
@[simp] theorem nk30 (n : Nat) : (n = n + 1 + 1 + 1 + 1 + 1 + 1 + 1 + 1 + 1 + 1 + 1 + 1 + 1 + 1 + 1 + 1 + 1 + 1 + 1 + 1 + 1 + 1 + 1 + 1 + 1 + 1 + 1 + 1 + 1 + 1) = False := by simp only [eq_iff_iff, iff_false]; omega
@[simp] theorem mk30 (n : Nat) : (n + 1 + 1 + 1 + 1 + 1 + 1 + 1 + 1 + 1 + 1 + 1 + 1 + 1 + 1 + 1 + 1 + 1 + 1 + 1 + 1 + 1 + 1 + 1 + 1 + 1 + 1 + 1 + 1 + 1 + 1 = n) = False := by simp only [eq_iff_iff, iff_false]; omega
theorem setMem_lt {m : Mem} {a j : Nat} {b : Option Blk} (h : j < a) : setMem m a b j = m j := if_neg (by omega)
theorem putN_lt {m q : Mem} {a b j : Nat} (h : j < a) : putN m a b q j = m j := if_neg (by omega)
theorem mixedR : Try.prog.follows .mixedOrders = true := by kernel_rfl
abbrev sto5 (s : RS) : List SV := [.d (iD s.long), .d (iD s.short), .d (iD s.off), .d (iD s.lo), .d (iD s.hi)]
def spS (A : Rgs) : List SV := (List.range 12).flatMap fun j => [.d (iD (A j).1), .d (iD (A j).2)]
def whS (s : RS) (ps : List Int) (A : Rgs) : List SV := sto5 s ++ .d (intL ps) :: spS A
@[simp] theorem spS_len (A : Rgs) : (spS A).length = 24 := by simp [spS, List.range_succ]
@[simp] theorem whS_len (s : RS) (ps : List Int) (A : Rgs) : (whS s ps A).length = 30 := by simp [whS]
@[simp] theorem wh0 (s : RS) (ps : List Int) (A : Rgs) : List.take 1 (whS s ps A) = [.d (iD s.long)] := rfl
@[simp] theorem wh1 (s : RS) (ps : List Int) (A : Rgs) : List.take 1 (List.drop 1 (whS s ps A)) = [.d (iD s.short)] := rfl
@[simp] theorem wh1t (s : RS) (ps : List Int) (A : Rgs) : List.take 1 (whS s ps A).tail = [.d (iD s.short)] := rfl
@[simp] theorem wh2 (s : RS) (ps : List Int) (A : Rgs) : List.take 1 (List.drop 2 (whS s ps A)) = [.d (iD s.off)] := rfl
@[simp] theorem wh3 (s : RS) (ps : List Int) (A : Rgs) : List.take 1 (List.drop 3 (whS s ps A)) = [.d (iD s.lo)] := rfl
@[simp] theorem wh4 (s : RS) (ps : List Int) (A : Rgs) : List.take 1 (List.drop 4 (whS s ps A)) = [.d (iD s.hi)] := rfl
@[simp] theorem wh5 (s : RS) (ps : List Int) (A : Rgs) : List.take 1 (List.drop 5 (whS s ps A)) = [.d (intL ps)] := rfl
@[simp] theorem whR (s : RS) (ps : List Int) (A : Rgs) : List.take 5 (whS s ps A) = sto5 s := rfl
@[simp] theorem whA (s : RS) (ps : List Int) (A : Rgs) : List.take 24 (List.drop 6 (whS s ps A)) = spS A := by simp [whS]; exact List.take_of_length_le (by simp)
theorem sp_at (A : Rgs) {p : Nat} (hp : p < 12) : List.take 2 (List.drop (p * 2) (spS A)) = [.d (iD (A p).1), .d (iD (A p).2)] := by
  have h : ∀ p : Fin 12, List.take 2 (List.drop (p.1 * 2) (spS A)) = [.d (iD (A p.1).1), .d (iD (A p.1).2)] := by
    intro p
    match p with
    | ⟨0, _⟩ => rfl
    | ⟨1, _⟩ => rfl
    | ⟨2, _⟩ => rfl
    | ⟨3, _⟩ => rfl
    | ⟨4, _⟩ => rfl
    | ⟨5, _⟩ => rfl
    | ⟨6, _⟩ => rfl
    | ⟨7, _⟩ => rfl
    | ⟨8, _⟩ => rfl
    | ⟨9, _⟩ => rfl
    | ⟨10, _⟩ => rfl
    | ⟨11, _⟩ => rfl
  exact h ⟨p, hp⟩
theorem wh_drop (s : RS) (ps : List Int) (A : Rgs) (k : Nat) : List.drop (6 + k) (whS s ps A) = List.drop k (spS A) := by
  rw [← List.drop_drop]
  rfl
theorem wh_at (s : RS) (ps : List Int) (A : Rgs) {p : Nat} (hp : p < 12) : List.take 2 (List.drop (6 + p * 2) (whS s ps A)) = [.d (iD (A p).1), .d (iD (A p).2)] := by rw [wh_drop, sp_at A hp]
abbrev WhAt (s : RS) (ps : List Int) (A : Rgs) (w : Nat) (m : Mem) : Prop := m w = some (.box 83 (whS s ps A) false)
theorem isPulley_w {s : RS} {ps : List Int} {A : Rgs} {w : Nat} {m : Mem} (hm : WhAt s ps A w m) (p : Int) (n : Nat) :
    CWp Try.prog 50 [.ptr w 0 0, .d (iD p)] n m fun y n' m' => n ≤ n' ∧ n' ≤ n + 20 ∧ y = .d (bD (decide (0 ≤ p ∧ p < ps.length))) ∧ m' = m := by
  by_cases g1 : 0 ≤ p
  · by_cases g2 : p < ps.length
    · rw [decide_eq_true ⟨g1, g2⟩]
      refine cwpK tabOk Try.func50 rfl rfl (show 2 ≤ _ by decide) rfl fun _ => ?_; simp only [Try.ntmps50]
      repeat (first | (with_reducible first | refine AWi.seqK fun _ => ?_ | refine AWi.blockK fun _ => ?_ | refine KI.go ?_) | ((first | refine AWi.region tabOk ?_ | refine AWi.condK fun _ _ => ?_ | refine AWi.draws tabOk rfl (by kernel_rfl) (by kernel_rfl) ?_); simp [-getElem?_pos, z0, z1, z2, hm, g1, g2]) | ((first | refine AWi.ret ?_ | refine AWi.skip ?_ | refine AWi.exit ?_); try simp only [thenP]) | (with_reducible refine BB.go ?_; simp only [blockP, thenP, reduceIte]) | (with_reducible refine And.intro (okLog_c (by simp [footOf, guardSlot, slotsOf, idsRead, looks, idsOf, idsOf1, idsWritten, colF]; kernel_rfl)) ?_))
      exact RI.ret rfl ⟨by omega, by omega, rfl, rfl⟩
    · rw [decide_eq_false (fun h => g2 h.2)]
      refine cwpK tabOk Try.func50 rfl rfl (show 2 ≤ _ by decide) rfl fun _ => ?_; simp only [Try.ntmps50]
      repeat (first | (with_reducible first | refine AWi.seqK fun _ => ?_ | refine AWi.blockK fun _ => ?_ | refine KI.go ?_) | ((first | refine AWi.region tabOk ?_ | refine AWi.condK fun _ _ => ?_ | refine AWi.draws tabOk rfl (by kernel_rfl) (by kernel_rfl) ?_); simp [-getElem?_pos, z0, z1, z2, hm, g1, g2]) | ((first | refine AWi.ret ?_ | refine AWi.skip ?_ | refine AWi.exit ?_); try simp only [thenP]) | (with_reducible refine BB.go ?_; simp only [blockP, thenP, reduceIte]) | (with_reducible refine And.intro (okLog_c (by simp [footOf, guardSlot, slotsOf, idsRead, looks, idsOf, idsOf1, idsWritten, colF]; kernel_rfl)) ?_))
      exact RI.ret rfl ⟨by omega, by omega, rfl, rfl⟩
  · rw [decide_eq_false (fun h => g1 h.1)]
    refine cwpK tabOk Try.func50 rfl rfl (show 2 ≤ _ by decide) rfl fun _ => ?_; simp only [Try.ntmps50]
    repeat (first | (with_reducible first | refine AWi.seqK fun _ => ?_ | refine AWi.blockK fun _ => ?_ | refine KI.go ?_) | ((first | refine AWi.region tabOk ?_ | refine AWi.condK fun _ _ => ?_ | refine AWi.draws tabOk rfl (by kernel_rfl) (by kernel_rfl) ?_); simp [-getElem?_pos, z0, z1, z2, hm, g1]) | ((first | refine AWi.ret ?_ | refine AWi.skip ?_ | refine AWi.exit ?_); try simp only [thenP]) | (with_reducible refine BB.go ?_; simp only [blockP, thenP, reduceIte]) | (with_reducible refine And.intro (okLog_c (by simp [footOf, guardSlot, slotsOf, idsRead, looks, idsOf, idsOf1, idsWritten, colF]; kernel_rfl)) ?_))
    exact RI.ret rfl ⟨by omega, by omega, rfl, rfl⟩
theorem bears_w {s : RS} {ps : List Int} {A : Rgs} {w : Nat} {m : Mem} (hm : WhAt s ps A w m) {p : Nat} (hp : p < 12) (x : Int) (n : Nat) (hw : w < n) :
    CWp Try.prog 75 [.ptr w 0 0, .d (iD p), .d (iD x)] n m fun y n' m' => n ≤ n' ∧ n' ≤ n + 30 ∧ y = .d (bD (bearB A p x)) ∧ ∀ j, j < n → m' j = m j := by
  have ha := wh_at s ps A hp
  have hl := whS_len s ps A
  have g3 : (p : Int) < 12 := by omega
  have g2 : 6 + p * 2 + 2 ≤ 30 := by omega
  obtain ⟨b, hb⟩ : ∃ b, b = bearB A p x := ⟨_, rfl⟩
  rw [← hb]
  unfold bearB at hb
  generalize A p = a at *
  obtain ⟨lo, hi⟩ := a
  simp only at hb ha
  by_cases g1 : lo ≤ x
  · by_cases g4 : x ≤ hi
    · rw [decide_eq_true ⟨g1, g4⟩] at hb
      subst hb
      refine cwpK tabOk Try.func75 rfl rfl (show 3 ≤ _ by decide) rfl fun _ => ?_; simp only [Try.ntmps75]
      repeat (first | (with_reducible first | refine AWi.seqK fun _ => ?_ | refine AWi.blockK fun _ => ?_ | refine KI.go ?_) | ((first | refine AWi.region tabOk ?_ | refine AWi.condK fun _ _ => ?_ | refine AWi.draws tabOk rfl (by kernel_rfl) (by kernel_rfl) ?_); simp [-getElem?_pos, z0, z1, z2, hm, ha, hl, g1, g2, g3, g4]) | ((first | refine AWi.ret ?_ | refine AWi.skip ?_ | refine AWi.exit ?_); try simp only [thenP]) | (with_reducible refine BB.go ?_; simp only [blockP, thenP, reduceIte]) | (with_reducible refine And.intro (okLog_c (by simp [footOf, guardSlot, slotsOf, idsRead, looks, idsOf, idsOf1, idsWritten, colF]; kernel_rfl)) ?_))
      exact RI.ret rfl ⟨by omega, by omega, rfl, fun j hj => by (try dsimp only); repeat (first | rw [setMem_lt (by omega)] | rw [putN_lt (by omega)])⟩
    · rw [decide_eq_false (fun h => g4 h.2)] at hb
      subst hb
      refine cwpK tabOk Try.func75 rfl rfl (show 3 ≤ _ by decide) rfl fun _ => ?_; simp only [Try.ntmps75]
      repeat (first | (with_reducible first | refine AWi.seqK fun _ => ?_ | refine AWi.blockK fun _ => ?_ | refine KI.go ?_) | ((first | refine AWi.region tabOk ?_ | refine AWi.condK fun _ _ => ?_ | refine AWi.draws tabOk rfl (by kernel_rfl) (by kernel_rfl) ?_); simp [-getElem?_pos, z0, z1, z2, hm, ha, hl, g1, g2, g3, g4]) | ((first | refine AWi.ret ?_ | refine AWi.skip ?_ | refine AWi.exit ?_); try simp only [thenP]) | (with_reducible refine BB.go ?_; simp only [blockP, thenP, reduceIte]) | (with_reducible refine And.intro (okLog_c (by simp [footOf, guardSlot, slotsOf, idsRead, looks, idsOf, idsOf1, idsWritten, colF]; kernel_rfl)) ?_))
      exact RI.ret rfl ⟨by omega, by omega, rfl, fun j hj => by (try dsimp only); repeat (first | rw [setMem_lt (by omega)] | rw [putN_lt (by omega)])⟩
  · rw [decide_eq_false (fun h => g1 h.1)] at hb
    subst hb
    refine cwpK tabOk Try.func75 rfl rfl (show 3 ≤ _ by decide) rfl fun _ => ?_; simp only [Try.ntmps75]
    repeat (first | (with_reducible first | refine AWi.seqK fun _ => ?_ | refine AWi.blockK fun _ => ?_ | refine KI.go ?_) | ((first | refine AWi.region tabOk ?_ | refine AWi.condK fun _ _ => ?_ | refine AWi.draws tabOk rfl (by kernel_rfl) (by kernel_rfl) ?_); simp [-getElem?_pos, z0, z1, z2, hm, ha, hl, g1, g2, g3]) | ((first | refine AWi.ret ?_ | refine AWi.skip ?_ | refine AWi.exit ?_); try simp only [thenP]) | (with_reducible refine BB.go ?_; simp only [blockP, thenP, reduceIte]) | (with_reducible refine And.intro (okLog_c (by simp [footOf, guardSlot, slotsOf, idsRead, looks, idsOf, idsOf1, idsWritten, colF]; kernel_rfl)) ?_))
    exact RI.ret rfl ⟨by omega, by omega, rfl, fun j hj => by (try dsimp only); repeat (first | rw [setMem_lt (by omega)] | rw [putN_lt (by omega)])⟩
theorem span_w {s : RS} {ps : List Int} {A : Rgs} {w : Nat} {m : Mem} (hm : WhAt s ps A w m) (hg : GoodR s) {p : Nat} {t : Int} (ht : ps[p]? = some t) (h1 : 1 ≤ t ∧ t ≤ 10000) (n : Nat) (hw : w < n) :
    CWp Try.prog 87 [.ptr w 0 0, .d (iD p)] n m fun y n' m' => toD3 y = some (rngD (spR s t)) ∧ ∀ j, j < n → m' j = m j := by
  have := hg.s1; have := hg.s2; have := hg.s3; have := hg.o1; have := hg.o2; have := hg.l1; have := hg.l2; have := hg.l3
  have hl := whS_len s ps A
  have hp : p < ps.length := (List.getElem?_eq_some_iff.1 ht).1
  have hpi : (p : Int) < ps.length := by omega
  obtain ⟨a, ha⟩ : ∃ a, a = (s.lo + t - 1) / t := ⟨_, rfl⟩
  obtain ⟨q, hq⟩ : ∃ q, q = s.hi / t := ⟨_, rfl⟩
  have q1 : (s.lo + t - 1).tdiv t = a := by rw [Int.tdiv_eq_ediv_of_nonneg (by omega), ha]
  have q2 : s.hi.tdiv t = q := by rw [Int.tdiv_eq_ediv_of_nonneg (by omega), hq]
  have hp1 : 0 ≤ a := by rw [ha]; exact Int.ediv_nonneg (by omega) (by omega)
  have hp2 : a ≤ 1000010000 := by rw [ha]; exact Int.le_trans (Int.ediv_le_self _ (by omega)) (by omega)
  have hq1 : 0 ≤ q := by rw [hq]; exact Int.ediv_nonneg (by omega) (by omega)
  have hq2 : q ≤ 1000000000 := by rw [hq]; exact Int.le_trans (Int.ediv_le_self _ (by omega)) (by omega)
  obtain ⟨x, hx⟩ : ∃ x, x = max s.short (a + s.off) := ⟨_, rfl⟩
  obtain ⟨y, hy⟩ : ∃ y, y = min s.long (q - s.off) := ⟨_, rfl⟩
  have hres : spR s t = if y < x then (0, 0) else (x, y) := by
    have : betR s t = (x, y) := by rw [betR, ← ha, ← hq, ← hx, ← hy]
    rw [spR, this]
  have m1 : (if s.short < a + s.off then a + s.off else s.short) = x := by rw [hx]; split <;> omega
  have m2 : (if q - s.off < s.long then q - s.off else s.long) = y := by rw [hy]; split <;> omega
  have w1 : IntKind.i64.wrap (s.lo + t) = s.lo + t := wrap64_in (by omega)
  have w2 : IntKind.i64.wrap (s.lo + t - 1) = s.lo + t - 1 := wrap64_in (by omega)
  have w3 : IntKind.i64.wrap a = a := wrap64_in (by omega)
  have w4 : IntKind.i64.wrap q = q := wrap64_in (by omega)
  have w5 : IntKind.i64.wrap (a + s.off) = a + s.off := wrap64_in (by omega)
  have w6 : IntKind.i64.wrap (q - s.off) = q - s.off := wrap64_in (by omega)
  have ht0 : ¬ t = 0 := by omega
  have hwn : ¬ w = n := by omega
  rw [hres]
  by_cases g : y < x
  · rw [if_pos g]
    refine cwpK tabOk Try.func87 rfl rfl (show 2 ≤ _ by decide) rfl fun _ => ?_; simp only [Try.ntmps87]
    repeat (first | (with_reducible first | refine AWi.seqK fun _ => ?_ | refine AWi.blockK fun _ => ?_ | refine KI.go ?_) | ((first | refine AWi.region tabOk ?_ | refine AWi.condK fun _ _ => ?_); simp [-getElem?_pos, z0, z1, z2, hm, hl, hp, hpi, ht, hwn]) | ((first | refine AWi.ret ?_ | refine AWi.skip ?_ | refine AWi.exit ?_); try simp only [thenP]) | (with_reducible refine BB.go ?_; simp only [blockP, thenP, reduceIte]))
    refine AWi.drawsT tabOk mixedR 45 (by kernel_rfl) (by kernel_rfl) ?_
    simp only [List.take_succ_cons, List.take_zero, List.drop_succ_cons, List.drop_zero]
    repeat (with_reducible refine ExecV.auto tabOk ?_; simp [-getElem?_pos, z0, z1, z2, kindV, isPure, hm, hl, hp, hpi, ht, hwn, w1, w2, w3, w4, w5, w6, q1, q2, m1, m2, ht0, hw]; try (refine And.intro (OkV_old (by simp; try omega) (by omega) (by simp [AllAcc])) ?_))
    unfold ExecV
    simp [-getElem?_pos, z0, z1, z2, g]
    repeat (first | (with_reducible first | refine AWi.seqK fun _ => ?_ | refine AWi.blockK fun _ => ?_ | refine KI.go ?_) | ((first | refine AWi.region tabOk ?_ | refine AWi.condK fun _ _ => ?_); simp [-getElem?_pos, z0, z1, z2, hwn, g]) | ((first | refine AWi.ret ?_ | refine AWi.skip ?_ | refine AWi.exit ?_); try simp only [thenP]) | (with_reducible refine BB.go ?_; simp only [blockP, thenP, reduceIte]))
    refine RI.ret (xs := [.agg [.d (iD 0), .d (iD 0)]]) (by simp [Try.results87, resSlots, resSlot, g]) ?_
    exact ⟨rfl, fun j hj => by (try dsimp only); repeat (first | rw [setMem_lt (by omega)] | rw [putN_lt (by omega)])⟩
  · rw [if_neg g]
    refine cwpK tabOk Try.func87 rfl rfl (show 2 ≤ _ by decide) rfl fun _ => ?_; simp only [Try.ntmps87]
    repeat (first | (with_reducible first | refine AWi.seqK fun _ => ?_ | refine AWi.blockK fun _ => ?_ | refine KI.go ?_) | ((first | refine AWi.region tabOk ?_ | refine AWi.condK fun _ _ => ?_); simp [-getElem?_pos, z0, z1, z2, hm, hl, hp, hpi, ht, hwn]) | ((first | refine AWi.ret ?_ | refine AWi.skip ?_ | refine AWi.exit ?_); try simp only [thenP]) | (with_reducible refine BB.go ?_; simp only [blockP, thenP, reduceIte]))
    refine AWi.drawsT tabOk mixedR 45 (by kernel_rfl) (by kernel_rfl) ?_
    simp only [List.take_succ_cons, List.take_zero, List.drop_succ_cons, List.drop_zero]
    repeat (with_reducible refine ExecV.auto tabOk ?_; simp [-getElem?_pos, z0, z1, z2, kindV, isPure, hm, hl, hp, hpi, ht, hwn, w1, w2, w3, w4, w5, w6, q1, q2, m1, m2, ht0, hw]; try (refine And.intro (OkV_old (by simp; try omega) (by omega) (by simp [AllAcc])) ?_))
    unfold ExecV
    simp [-getElem?_pos, z0, z1, z2, g]
    repeat (first | (with_reducible first | refine AWi.seqK fun _ => ?_ | refine AWi.blockK fun _ => ?_ | refine KI.go ?_) | ((first | refine AWi.region tabOk ?_ | refine AWi.condK fun _ _ => ?_); simp [-getElem?_pos, z0, z1, z2, hwn, g]) | ((first | refine AWi.ret ?_ | refine AWi.skip ?_ | refine AWi.exit ?_); try simp only [thenP]) | (with_reducible refine BB.go ?_; simp only [blockP, thenP, reduceIte]))
    refine RI.ret (xs := [.agg [.d (iD x), .d (iD y)]]) (by simp [Try.results87, resSlots, resSlot, g]) ?_
    exact ⟨rfl, fun j hj => by (try dsimp only); repeat (first | rw [setMem_lt (by omega)] | rw [putN_lt (by omega)])⟩
end Go.Proofs.Ytdkneonokbakjaa.Eng

noncomputable section
namespace Go.Proofs.Ytdkneonokbakjaa.Eng
open Go.RowKit
variable {P : Program} {T : Tab} {r : Option Nat} {ns : Nat}
def ExecS (P : Program) (r : Option Nat) (ns : Nat) (ops : Array Oper) : Nat → List Oper → St → (Nat → St → Prop) → Prop
  | n, [], s, Q => Q n s
  | n, o :: l, s, Q => guardS ops ns s o = some true ∧ ∃ G, StepI P r ns n s o G ∧ ∀ n' s', G n' s' → ExecS P r ns ops n' l s' Q
theorem execS_list {W0 : Fix} {R0 : Nat → Prop} {B : Nat} (hi : InAct r W0 R0 B) {ops : Array Oper} {Q : Exit → Act → World → Prop} : ∀ (l : List Oper) (n : Nat) {s : St} {E : Env} {a : Act} {w : World} {Q' : Nat → St → Prop}, ExecS P r ns ops n l s Q' →
    Sim W0 R0 ns (· < n) s E a w → (∀ n' s' E' a' w', Sim W0 R0 ns (· < n') s' E' a' w' → Q' n' s' → Q .normal a' w') → wpListIn (fen (rOf W0 r)) 0 P ops Q l a w
  | [], n, s, E, a, w, Q', h, hs, hQ => hQ n s E a w hs h
  | o :: l, n, s, E, a, w, Q', ⟨hg, G, h1, h2⟩, hs, hQ => by
    refine wpListIn_step fun K hK => ?_
    rw [guard_ok hs hg, if_pos rfl]
    exact h1 W0 R0 B E a w hi hs (guardS_dst hg) K Q fun n' s' E' a' w' hG hs' => hK _ _ (execS_list hi l n' (h2 n' s' hG) hs' hQ)
theorem AWi.regionS {id n : Nat} {s : St} {Q : Post} {l : List Oper} (h : ExecS P r ns l.toArray n l s (fun n' s' => Q .normal n' s')) : AWi P r ns (.region id l.toArray false) n s Q :=
  fun W0 _ _ _ _ _ hi hs => wpIn_region_lit (execS_list hi l n h hs fun n' s' E' _ _ h1 h2 => ⟨n', s', E', W0, Ext.refl _, hi, h1, h2⟩)
section
variable {ops : Array Oper} {o : Oper} {l : List Oper} {n : Nat} {s : St} {Q : Nat → St → Prop}
theorem ExecS.plain (hT : TabOk P T) {out : Out} (hg : guardS ops ns s o = some true) (hw : waits o.op = false) (hx : aop T s.mem n (opd ns s) o.op = some out) (h : ExecS P r ns ops (n + 1) l (putS s n o.dst out) Q) : ExecS P r ns ops n (o :: l) s Q :=
  ⟨hg, fun n' s' => n' = n + 1 ∧ s' = putS s n o.dst out, fun W0 R0 B E a w hi hs hd K Q' hK =>
    oper_in (noDefer_spec (aop_noDefer hx) List.mem_cons_self) (step_wp hT hs (nid := n) (by omega) (N := n) (fun _ h => h) hd ((step_plain hw).2 hx) fun E' a' w' hs' => hK _ _ E' a' w' ⟨rfl, rfl⟩ (hs'.weak fun i hi => by omega)), fun n' s' ⟨e1, e2⟩ => by rw [e1, e2]; exact h⟩
theorem ExecS.slice (hT : TabOk P T) {t e : TypeId} {x : Operand} {i ie : TI} {N id j : Nat} (ho : o.op = .slice t x none none none) (hg : guardS ops ns s o = some true) (hi : T t = some i) (hk : i.kind = .array N e) (hie : T e = some ie) (hN : 0 < N) (hx : opd ns s x = some (.ptr id 0 j))
    (h : ExecS P r ns ops n l ⟨setSlot s.slots o.dst (.sl id j N (some N)), s.mem⟩ Q) : ExecS P r ns ops n (o :: l) s Q :=
  ⟨hg, fun n' s' => n' = n ∧ s' = ⟨setSlot s.slots o.dst (.sl id j N (some N)), s.mem⟩, fun W0 R0 B E a w hin hs hd K Q' hK => by
    have hr := hs.opd hx
    have hc : sliceC T i (.ptr id 0 j) none none none = some (.sl id j N (some N)) := by
      have hN' : ¬ (N : Int) = 0 := by omega
      simp [sliceC, hk, hie, hN']
    obtain ⟨z, h1, h2⟩ := sliceC_run (w := w) hT hi Bd.none Bd.none Bd.none hc hr
    refine oper_in (fun c e => by rw [ho] at e; cases e) ?_
    unfold Oper.wp
    have he : (execOp a.eval o).run P w = .ok (.value z) w := by
      simp only [execOp, ho, Sem.run_bind]
      simp [h1]
    rw [he]
    exact hK n _ E _ w ⟨rfl, rfl⟩ (hs.put hd h2), fun n' s' ⟨e1, e2⟩ => by rw [e1, e2]; exact h⟩
theorem ExecS.clear (hT : TabOk P T) {t e ty : TypeId} {x : Operand} {c : Call} {i ie : TI} {N id j cp : Nat} {cells : List SV} (ho : o.op = .call c) (hc1 : c.callee = .builtin .clear) (hc2 : c.args.toList = [x]) (hc3 : c.argTypes.toList = [t]) (hg : guardS ops ns s o = some true) (hi : T t = some i) (hk : i.kind = .slice e) (hie : T e = some ie) (hN : 0 < N) (hx : opd ns s x = some (.sl id j N (some cp))) (hm : s.mem id = some (.box ty cells false)) (hle : j + N * ie.size ≤ cells.length)
    (h : ExecS P r ns ops n l ⟨setSlot s.slots o.dst (.tup []), setMem s.mem id (some (.box ty (splice cells j (zerosC ie (N * ie.size))) false))⟩ Q) : ExecS P r ns ops n (o :: l) s Q :=
  ⟨hg, fun n' s' => n' = n ∧ s' = ⟨setSlot s.slots o.dst (.tup []), setMem s.mem id (some (.box ty (splice cells j (zerosC ie (N * ie.size))) false))⟩, fun W0 R0 B E a w hin hs hd K Q' hK => by
    rw [call_eq hc1 hc2 hc3] at ho
    have hr := hs.opd hx
    have hu := slice_und (hT t i hi) hk
    obtain ⟨inf, z0, i1, i4, i2, i3, hzs, hz⟩ := zeros_reps (E := E) (w := w) hT hie
    obtain ⟨u, hu'⟩ : ∃ u, a.eval x = u := ⟨_, rfl⟩
    rw [hu'] at hr
    cases hr with
    | sl _ _ _ _ q0 cd hdm hcd hq hnd =>
    obtain rfl := (hq (.inl hN)).symm
    have hro : ¬ E.ro (E.home id).blk := fun k => by have := (hs.frz id _ hm).2 k; cases this
    cases hs.mem id _ hm with
    | box _ _ _ cur h1 h2 h3 h4 =>
    have hR := hz (N * ie.size)
    have hlen : (madeCells z0.cells (N * ie.size)).toList.length = N * ie.size := by simp [size_madeCells]
    have hst := run_storeCells_at P (E.home id).blk j ty (madeCells z0.cells (N * ie.size)).toList 0 cur w h1 (by rw [hlen]; omega) hR.ones
    simp only [Nat.add_zero] at hst
    have hzv : (zeroValue e).run P w = .ok z0 w := by simp [zeroValue, typeInfo, i1, i4]
    have hzc : Builtin.zeroCells z0.cells N = madeCells z0.cells (N * ie.size) := by unfold Builtin.zeroCells madeCells; rw [hzs]
    obtain ⟨q, rfl⟩ : ∃ q, N = q + 1 := ⟨N - 1, by omega⟩
    have hrun : (Builtin.clear_ #[t] o.type #[.slice (some ⟨(E.home id).blk, j, none⟩) (q + 1) cd]).run P w = .ok (.tuple #[]) (w.setRow (E.home id).blk (cur.toList.take j ++ (madeCells z0.cells ((q + 1) * ie.size)).toList ++ cur.toList.drop (j + (madeCells z0.cells ((q + 1) * ie.size)).toList.length)).toArray) := by
      simp [Builtin.clear_, run_underlying hu, hzv, hzc]
      simp at hst
      rw [hst]
      simp
    have he : (execOp a.eval o).run P w = .ok (.value (.tuple #[])) (w.setRow (E.home id).blk (cur.toList.take j ++ (madeCells z0.cells ((q + 1) * ie.size)).toList ++ cur.toList.drop (j + (madeCells z0.cells ((q + 1) * ie.size)).toList.length)).toArray) := by
      simp only [execOp, ho, resolve, invoke, builtin, Sem.run_bind, Sem.run_pure, Result.andThen_ok, List.map_toArray, List.map_cons, List.map_nil, hu', hrun]
    have hw : ∀ b, E.ro b → (w.setRow (E.home id).blk (cur.toList.take j ++ (madeCells z0.cells ((q + 1) * ie.size)).toList ++ cur.toList.drop (j + (madeCells z0.cells ((q + 1) * ie.size)).toList.length)).toArray).heap[b]? = w.heap[b]? := fun b hb => setRow_other _ _ _ _ (fun e => hro (e ▸ hb))
    have hC : Reps E w cells cur.toList := ⟨by simpa using h2, h3, fun i c v hc hv => h4 i c v hc (by simpa using hv)⟩
    have hS := (hC.keep (Env.le.refl E) hw).splice (hR.keep (Env.le.refl E) hw) j (by rw [zerosC_len]; exact hle) (cur.toList.take j ++ (madeCells z0.cells ((q + 1) * ie.size)).toList ++ cur.toList.drop (j + (madeCells z0.cells ((q + 1) * ie.size)).toList.length)).toArray (by simp [size_madeCells]; omega) fun k => by
      rw [splice_at cur _ j (by rw [hlen]; omega)]
      by_cases q1 : j ≤ k ∧ k < j + (madeCells z0.cells ((q + 1) * ie.size)).toList.length
      · rw [if_pos q1, if_pos ⟨q1.1, q1.2, by rw [hlen] at q1; simp; omega⟩]
      · rw [if_neg q1, if_neg (fun q' => q1 ⟨q'.1, q'.2.1⟩)]; simp
    have h6 : Sim W0 R0 ns (· < n) ⟨s.slots, setMem s.mem id (some (.box ty (splice cells j (zerosC ie ((q + 1) * ie.size))) false))⟩ E a (w.setRow (E.home id).blk (cur.toList.take j ++ (madeCells z0.cells ((q + 1) * ie.size)).toList ++ cur.toList.drop (j + (madeCells z0.cells ((q + 1) * ie.size)).toList.length)).toArray) :=
      hs.write hm rfl rfl (grown_setRow _ _ _) (.box ty _ _ _ (setRow_heap _ _ _ _ _ _ h1) (by simpa using hS.1) hS.2.1 fun i c v hc hv => hS.2.2 i c v hc (by simpa using hv))
    refine oper_in (fun c e => by rw [ho] at e; cases e) ?_
    unfold Oper.wp
    rw [he]
    exact hK n _ E _ _ ⟨rfl, rfl⟩ (h6.put hd (.tup [] #[] rfl (by simp))), fun n' s' ⟨e1, e2⟩ => by rw [e1, e2]; exact h⟩
end
end Go.Proofs.Ytdkneonokbakjaa.Eng

noncomputable section
namespace Go.Proofs.Ytdkneonokbakjaa.Eng
open Go.RowKit
set_option maxRecDepth 100000
set_option maxHeartbeats 8000000
theorem whS_congr {s : RS} {ps : List Int} {A B : Rgs} (h : ∀ j, j < 12 → A j = B j) : whS s ps A = whS s ps B := by
  have e : ∀ A : Rgs, spS A = [.d (iD (A 0).1), .d (iD (A 0).2), .d (iD (A 1).1), .d (iD (A 1).2), .d (iD (A 2).1), .d (iD (A 2).2), .d (iD (A 3).1), .d (iD (A 3).2), .d (iD (A 4).1), .d (iD (A 4).2), .d (iD (A 5).1), .d (iD (A 5).2), .d (iD (A 6).1), .d (iD (A 6).2), .d (iD (A 7).1), .d (iD (A 7).2), .d (iD (A 8).1), .d (iD (A 8).2), .d (iD (A 9).1), .d (iD (A 9).2), .d (iD (A 10).1), .d (iD (A 10).2), .d (iD (A 11).1), .d (iD (A 11).2)] := fun _ => rfl
  unfold whS
  rw [e A, e B, h 0 (by decide), h 1 (by decide), h 2 (by decide), h 3 (by decide), h 4 (by decide), h 5 (by decide), h 6 (by decide), h 7 (by decide), h 8 (by decide), h 9 (by decide), h 10 (by decide), h 11 (by decide)]
theorem WhAt.congr {s : RS} {ps : List Int} {A B : Rgs} {w : Nat} {m : Mem} (h : WhAt s ps A w m) (hb : ∀ j, j < 12 → B j = A j) : WhAt s ps B w m := by
  unfold WhAt
  rw [whS_congr hb]
  exact h
theorem WhAt.only {s : RS} {ps : List Int} {A : Rgs} {w : Nat} {m : Mem} (h : WhAt s ps A w m) : WhAt s ps A w (only m [w]) := by
  show Eng.only m [w] w = _
  rw [only_at, if_pos List.mem_cons_self]
  exact h
theorem wh_put (s : RS) (ps : List Int) (A : Rgs) {k : Nat} (hk : k < 12) (a b : Int) : List.take (6 + k * 2) (whS s ps A) ++ .d (iD a) :: .d (iD b) :: List.drop (6 + k * 2 + 2) (whS s ps A) = whS s ps fun j => if j = k then (a, b) else A j := by
  have h : ∀ p : Fin 12, List.take (6 + p.1 * 2) (whS s ps A) ++ .d (iD a) :: .d (iD b) :: List.drop (6 + p.1 * 2 + 2) (whS s ps A) = whS s ps fun j => if j = p.1 then (a, b) else A j := by
    intro p
    match p with
    | ⟨0, _⟩ => rfl
    | ⟨1, _⟩ => rfl
    | ⟨2, _⟩ => rfl
    | ⟨3, _⟩ => rfl
    | ⟨4, _⟩ => rfl
    | ⟨5, _⟩ => rfl
    | ⟨6, _⟩ => rfl
    | ⟨7, _⟩ => rfl
    | ⟨8, _⟩ => rfl
    | ⟨9, _⟩ => rfl
    | ⟨10, _⟩ => rfl
    | ⟨11, _⟩ => rfl
  exact h ⟨k, hk⟩
theorem use_w {s : RS} {ps : List Int} {A : Rgs} {w : Nat} {m : Mem} (hm : WhAt s ps A w m) (ok : StoOk s ps) (Y : SV) (hY : FnV Y) (mt : Nat → Bool) (n : Nat) (hw : w < n)
    (hM : ∀ p, p < ps.length → ∀ (n' : Nat) (m' : Mem) (B : Rgs), n ≤ n' → WhAt s ps B w m' → (∀ j, j < n → j ≠ w → m' j = m j) → YCall Try.prog Y [.d (iD p)] n' m' fun y n'' m'' => n' ≤ n'' ∧ y = .d (bD (mt p)) ∧ ∀ j, j < n' → m'' j = m' j) :
    CWp Try.prog 84 [.ptr w 0 0, Y] n m fun y n' m' => n ≤ n' ∧ y = .tup [] ∧ WhAt s ps (allR s ps mt) w m' ∧ ∀ j, j < n → j ≠ w → m' j = m j := by
  obtain ⟨hY1, hY2⟩ := hY
  have n2 := ok.n2
  have hl := whS_len s ps
  have hz : splice (whS s ps A) 6 (zerosC { size := 2, bytes := 16, zero := [.int .i64 0, .int .i64 0], kind := .struct [(0, 2), (1, 2)], eqk := [.i64, .i64] } (12 * 2)) = whS s ps fun _ => (0, 0) := by rfl
  refine cwpK tabOk Try.func84 rfl rfl (show 2 ≤ _ by decide) rfl fun _ => ?_; simp only [Try.ntmps84]
  refine AWi.seqK fun _ => ?_
  refine AWi.regionS ?_
  refine ExecS.plain tabOk (out := { res := .ptr w 0 0 }) rfl rfl (by simp [-getElem?_pos, z0, z1, z2]) ?_
  refine ExecS.plain tabOk (out := { res := .ptr w 0 0 }) rfl rfl (by simp [-getElem?_pos, z0, z1, z2, hm]) ?_
  refine ExecS.plain tabOk (out := { res := .ptr w 0 6 }) rfl rfl (by simp [-getElem?_pos, z0, z1, z2, hm]) ?_
  refine ExecS.slice tabOk (N := 12) (id := w) (j := 6) rfl rfl (TB81) rfl (TB23) (by decide) (by simp [-getElem?_pos, z0, z1, z2]) ?_
  refine ExecS.clear tabOk (ty := 83) (N := 12) (id := w) (j := 6) (cp := 12) (cells := whS s ps A) rfl rfl rfl rfl rfl (TB74) rfl (TB23) (by decide) (by simp [-getElem?_pos, z0, z1, z2]) (by simp [putS, hm]) (by simp) ?_
  rw [show splice _ _ _ = _ from hz]
  simp [putS, ExecS]
  with_reducible refine KI.go ?_
  repeat (first | (with_reducible first | refine AWi.seqK fun _ => ?_ | refine AWi.blockK fun _ => ?_ | refine KI.go ?_) | ((first | refine AWi.region tabOk ?_ | refine AWi.condK fun _ _ => ?_ | refine AWi.draws tabOk rfl (by kernel_rfl) (by kernel_rfl) ?_); simp [-getElem?_pos, z0, z1, z2, hl]) | ((first | refine AWi.ret ?_ | refine AWi.skip ?_ | refine AWi.exit ?_); try simp only [thenP]) | (with_reducible refine BB.go ?_; simp only [blockP, thenP, reduceIte]) | (with_reducible refine And.intro (okLog_c (by simp [footOf, guardSlot, slotsOf, idsRead, looks, idsOf, idsOf1, idsWritten, colF]; kernel_rfl)) ?_))
  refine AWi.loopK (fun (k : Nat) n1 t => n ≤ n1 ∧ k ≤ ps.length ∧ t.slots 0 = .ptr w 0 0 ∧ t.slots 1 = Y ∧ t.slots 13 = .d (iD ps.length) ∧ t.slots 14 = .d (iD k) ∧ WhAt s ps (fun j => if j < k then allR s ps mt j else (0, 0)) w t.mem ∧ ∀ j, j < n → j ≠ w → t.mem j = m j) (fun k => ps.length - k) 0 ?_ ?_
  · refine ⟨by omega, Nat.zero_le _, by simp, by simp, by simp [iD], by simp [iD], ?_, fun j h1 h2 => ?_⟩
    · exact if_pos rfl
    · simp [h2]
  rintro k n1 t ⟨r0, r1, t0, t1, t13, t14, tm, tl⟩ kk
  have w1 : IntKind.i64.wrap ((k : Int) + 1) = (k : Int) + 1 := wrap64_in (by omega)
  by_cases hlt : k < ps.length
  · have hii : (k : Int) < ps.length := by omega
    obtain ⟨tu, htu⟩ : ∃ tu, ps[k]? = some tu := ⟨_, List.getElem?_eq_getElem hlt⟩
    repeat (first | (with_reducible first | refine AWi.seqK fun _ => ?_ | refine AWi.blockK fun _ => ?_ | refine KI.go ?_) | ((first | refine AWi.region tabOk ?_ | refine AWi.condK fun _ _ => ?_); simp [-getElem?_pos, z0, z1, z2, t0, t1, t13, t14, hii]) | ((first | refine AWi.ret ?_ | refine AWi.skip ?_ | refine AWi.exit ?_); try simp only [thenP]) | (with_reducible refine BB.go ?_; simp only [blockP, thenP, reduceIte]))
    refine ExecI.callY (Y := Y) (xs := [.d (iD k)]) (hM k hlt _ _ _ (by omega) tm tl) (by simp [-getElem?_pos, z0, z1, z2]) (by simp [calleeV, evList]) ?_
    rintro y n2 m2 ⟨q1, rfl, q3⟩
    have tm2 : WhAt s ps (fun j => if j < k then allR s ps mt j else (0, 0)) w m2 := (q3 w (by omega)).trans tm
    have hall : allR s ps mt k = if mt k then spR s tu else (0, 0) := by rw [allR, htu]
    cases hmt : mt k with
    | false =>
      rw [hmt] at hall
      simp [-getElem?_pos, z0, z1, z2]
      repeat (first | (with_reducible first | refine AWi.seqK fun _ => ?_ | refine AWi.blockK fun _ => ?_ | refine KI.go ?_) | ((first | refine AWi.region tabOk ?_ | refine AWi.condK fun _ _ => ?_); simp [-getElem?_pos, z0, z1, z2, t14, w1]) | ((first | refine AWi.ret ?_ | refine AWi.skip ?_ | refine AWi.exit ?_); try simp only [thenP]) | (with_reducible refine BB.go ?_; simp only [blockP, thenP, reduceIte]))
      refine LI.go (k + 1) ⟨by omega, hlt, by simp [t0], by simp [t1], by simp [t13], by simp [iD], tm2.congr fun j _ => ?_, fun j h1 h2 => (q3 j (by omega)).trans (tl j h1 h2)⟩ (by omega)
      by_cases h1 : j < k
      · rw [if_pos h1, if_pos (by omega)]
      · by_cases h2 : j = k
        · subst h2; rw [if_pos (by omega), if_neg h1, hall]; rfl
        · rw [if_neg h1, if_neg (by omega)]
    | true =>
      rw [hmt, if_pos rfl] at hall
      simp [-getElem?_pos, z0, z1, z2]
      repeat (first | (with_reducible first | refine AWi.seqK fun _ => ?_ | refine AWi.blockK fun _ => ?_ | refine KI.go ?_) | ((first | refine AWi.region tabOk ?_ | refine AWi.condK fun _ _ => ?_); simp [-getElem?_pos, z0, z1, z2, t0, t14, tm2]) | ((first | refine AWi.ret ?_ | refine AWi.skip ?_ | refine AWi.exit ?_); try simp only [thenP]) | (with_reducible refine BB.go ?_; simp only [blockP, thenP, reduceIte]))
      have hk12 : k < 12 := by omega
      have hk12i : (k : Int) < 12 := by omega
      have hput := wh_put s ps (fun j => if j < k then allR s ps mt j else (0, 0)) hk12 (spR s tu).1 (spR s tu).2
      have hwn2 : w < n2 := by omega
      have hle : 6 + k * 2 + 2 ≤ 30 := by omega
      refine AWi.drawsT tabOk mixedR 8 (by kernel_rfl) (by kernel_rfl) ?_
      simp only [List.take_succ_cons, List.take_zero, List.drop_succ_cons, List.drop_zero]
      repeat (with_reducible refine ExecV.auto tabOk ?_; simp [-getElem?_pos, z0, z1, z2, kindV, isPure, t0, tm2, hwn2]; try (refine And.intro (OkV_old (by simp; try omega) (by omega) (by simp [AllAcc])) ?_))
      refine ExecV.ro (x := .agg [.d (iD (spR s tu).1), .d (iD (spR s tu).2)]) (d := rngD (spR s tu)) (svs := [.ptr w 0 0, .d (iD k)]) [w] (RCall.of3 (n0 := w + 1) fun nn hnn => span_w (A := fun j => if j < k then allR s ps mt j else (0, 0)) tm2.only ok.g htu (ok.turn htu) nn (by omega)) rfl rfl (by simp [calleeS, evList]) (OkV_old (by simp; try omega) (by omega) (by simp [AllAcc])) ?_
      repeat (with_reducible refine ExecV.auto tabOk ?_; simp [-getElem?_pos, z0, z1, z2, kindV, isPure, t0, tm2, hwn2, hk12, hk12i, hl, hle]; try (refine And.intro (OkV_old (by simp; try omega) (by omega) (by simp [AllAcc])) ?_))
      unfold ExecV
      simp [-getElem?_pos, z0, z1, z2, tm2, hle, hput]
      repeat (first | (with_reducible first | refine AWi.seqK fun _ => ?_ | refine AWi.blockK fun _ => ?_ | refine KI.go ?_) | ((first | refine AWi.region tabOk ?_ | refine AWi.condK fun _ _ => ?_); simp [-getElem?_pos, z0, z1, z2, t14, w1]) | ((first | refine AWi.ret ?_ | refine AWi.skip ?_ | refine AWi.exit ?_); try simp only [thenP]) | (with_reducible refine BB.go ?_; simp only [blockP, thenP, reduceIte]))
      refine LI.go (k + 1) ⟨by omega, hlt, by simp [t0], by simp [t1], by simp [t13], by simp [iD], WhAt.congr (A := fun j => if j = k then ((spR s tu).1, (spR s tu).2) else if j < k then allR s ps mt j else (0, 0)) (if_pos rfl) fun j _ => ?_, fun j h1 h2 => (if_neg h2).trans ((q3 j (by omega)).trans (tl j h1 h2))⟩ (by omega)
      by_cases h1 : j < k
      · rw [if_pos (by omega), if_neg (by omega), if_pos h1]
      · by_cases h2 : j = k
        · subst h2; rw [if_pos (by omega), if_pos rfl, hall]
        · rw [if_neg (by omega), if_neg h2, if_neg h1]
  · obtain rfl : k = ps.length := by omega
    repeat (first | (with_reducible first | refine AWi.seqK fun _ => ?_ | refine AWi.blockK fun _ => ?_ | refine KI.go ?_) | ((first | refine AWi.region tabOk ?_ | refine AWi.condK fun _ _ => ?_); simp [-getElem?_pos, z0, z1, z2, t13, t14]) | ((first | refine AWi.ret ?_ | refine AWi.skip ?_ | refine AWi.exit ?_); try simp only [thenP]) | (with_reducible refine BB.go ?_; simp only [blockP, thenP, reduceIte]))
    refine RI.normal rfl ⟨by omega, rfl, WhAt.congr (m := t.mem) tm fun j _ => ?_, tl⟩
    by_cases h1 : j < ps.length
    · rw [if_pos h1]
    · rw [if_neg h1, allR, List.getElem?_eq_none (by omega)]
theorem newWheel_w {s : RS} {ps : List Int} (ok : StoOk s ps) (n : Nat) (m : Mem) :
    CWp Try.prog 74 [.agg (sto5 s), .d (intL ps)] n m fun y n' m' => n ≤ n' ∧ (∃ w, n ≤ w ∧ w < n' ∧ y = .ptr w 0 0 ∧ WhAt s ps (allR s ps fun _ => true) w m') ∧ ∀ j, j < n → m' j = m j := by
  refine cwpK tabOk Try.func74 rfl rfl (show 2 ≤ _ by decide) rfl fun _ => ?_; simp only [Try.ntmps74]
  repeat (first | (with_reducible first | refine AWi.seqK fun _ => ?_ | refine AWi.blockK fun _ => ?_ | refine KI.go ?_) | ((first | refine AWi.region tabOk ?_ | refine AWi.condK fun _ _ => ?_); simp [-getElem?_pos, z0, z1, z2, z0]) | ((first | refine AWi.ret ?_ | refine AWi.skip ?_ | refine AWi.exit ?_); try simp only [thenP]) | (with_reducible refine BB.go ?_; simp only [blockP, thenP, reduceIte]))
  refine ExecI.callC (use_w (s := s) (ps := ps) (A := fun _ => (0, 0)) (w := n + 1 + 1 + 1 + 1 + 1) (if_pos rfl) ok (.fn 50 [.ptr (n + 1 + 1 + 1 + 1 + 1) 0 0] []) ⟨rfl, rfl⟩ (fun _ => true) _ (by omega) fun p hp n' m' B h1 h2 _ => YCall.fn ((isPulley_w h2 p n').mono fun y n2 m2 ⟨q1, _, e1, e2⟩ => ⟨q1, by rw [e1, decide_eq_true (by omega)], fun _ _ => by rw [e2]⟩)) rfl (by simp [calleeS, evList]) ?_
  rintro y n2 m2 ⟨q1, rfl, q3, q4⟩
  simp
  repeat (first | (with_reducible first | refine AWi.seqK fun _ => ?_ | refine AWi.blockK fun _ => ?_ | refine KI.go ?_) | ((first | refine AWi.region tabOk ?_ | refine AWi.condK fun _ _ => ?_); simp [-getElem?_pos, z0, z1, z2, z0]) | ((first | refine AWi.ret ?_ | refine AWi.skip ?_ | refine AWi.exit ?_); try simp only [thenP]) | (with_reducible refine BB.go ?_; simp only [blockP, thenP, reduceIte]))
  refine RI.ret rfl ⟨by omega, ⟨_, by omega, by omega, rfl, q3⟩, fun j hj => (q4 j (by omega) (by omega)).trans (by (try dsimp only); repeat (first | rw [setMem_lt (by omega)] | rw [putN_lt (by omega)]))⟩
def whP (s : RS) (ps : List Int) (n n' : Nat) (m m' : Mem) (y : SV) : Prop := if stoE s ps = 0 then ∃ w, n ≤ w ∧ w < n' ∧ y = .tup [.ptr w 0 0, .d (iD 0)] ∧ WhAt s ps (allR s ps fun _ => true) w m' else y = .tup [.d (.val (.pointer none)), .d (iD (stoE s ps))]
theorem check_w (s : RS) (ps : List Int) (hl : ps.length ≤ 1000000) (n : Nat) (m : Mem) :
    CWp Try.prog 49 [.agg (sto5 s), .d (intL ps)] n m fun y n' m' => n ≤ n' ∧ whP s ps n n' m m' y ∧ ∀ j, j < n → m' j = m j := by
  have cs := checkStone_c s ps hl
  by_cases h0 : stoE s ps = 0
  · rw [h0] at cs
    refine cwpK tabOk Try.func49 rfl rfl (show 2 ≤ _ by decide) rfl fun _ => ?_; simp only [Try.ntmps49]
    repeat (first | (with_reducible first | refine AWi.seqK fun _ => ?_ | refine AWi.blockK fun _ => ?_ | refine KI.go ?_) | ((first | refine AWi.region tabOk ?_ | refine AWi.condK fun _ _ => ?_); simp [-getElem?_pos, z0, z1, z2, z0]) | ((first | refine AWi.ret ?_ | refine AWi.skip ?_ | refine AWi.exit ?_); try simp only [thenP]) | (with_reducible refine BB.go ?_; simp only [blockP, thenP, reduceIte]))
    refine ExecI.call [] cs ?_ rfl ?_ ?_; (focus simp [-getElem?_pos, ]); (focus simp [-getElem?_pos, z0, z1, z2, ]); simp [-getElem?_pos, z0, z1, z2, ]
    repeat (first | (with_reducible first | refine AWi.seqK fun _ => ?_ | refine AWi.blockK fun _ => ?_ | refine KI.go ?_) | ((first | refine AWi.region tabOk ?_ | refine AWi.condK fun _ _ => ?_); simp [-getElem?_pos, z0, z1, z2, z0]) | ((first | refine AWi.ret ?_ | refine AWi.skip ?_ | refine AWi.exit ?_); try simp only [thenP]) | (with_reducible refine BB.go ?_; simp only [blockP, thenP, reduceIte]))
    refine ExecI.callC (newWheel_w (stoE_ok.1 h0) _ _) rfl (by simp [calleeS, evList]) ?_
    rintro y n2 m2 ⟨q1, ⟨w, h1, h2, rfl, h3⟩, q4⟩
    simp
    repeat (first | (with_reducible first | refine AWi.seqK fun _ => ?_ | refine AWi.blockK fun _ => ?_ | refine KI.go ?_) | ((first | refine AWi.region tabOk ?_ | refine AWi.condK fun _ _ => ?_); simp [-getElem?_pos, z0, z1, z2, z0]) | ((first | refine AWi.ret ?_ | refine AWi.skip ?_ | refine AWi.exit ?_); try simp only [thenP]) | (with_reducible refine BB.go ?_; simp only [blockP, thenP, reduceIte]))
    refine RI.ret rfl ⟨by omega, ?_, fun j hj => (q4 j (by omega)).trans (by (try dsimp only); repeat (first | rw [setMem_lt (by omega)] | rw [putN_lt (by omega)]))⟩
    rw [whP, if_pos h0]
    exact ⟨w, by omega, by omega, rfl, h3⟩
  · refine cwpK tabOk Try.func49 rfl rfl (show 2 ≤ _ by decide) rfl fun _ => ?_; simp only [Try.ntmps49]
    repeat (first | (with_reducible first | refine AWi.seqK fun _ => ?_ | refine AWi.blockK fun _ => ?_ | refine KI.go ?_) | ((first | refine AWi.region tabOk ?_ | refine AWi.condK fun _ _ => ?_); simp [-getElem?_pos, z0, z1, z2, z0]) | ((first | refine AWi.ret ?_ | refine AWi.skip ?_ | refine AWi.exit ?_); try simp only [thenP]) | (with_reducible refine BB.go ?_; simp only [blockP, thenP, reduceIte]))
    refine ExecI.call [] cs ?_ rfl ?_ ?_; (focus simp [-getElem?_pos, ]); (focus simp [-getElem?_pos, z0, z1, z2, ]); simp [-getElem?_pos, z0, z1, z2, ]
    repeat (first | (with_reducible first | refine AWi.seqK fun _ => ?_ | refine AWi.blockK fun _ => ?_ | refine KI.go ?_) | ((first | refine AWi.region tabOk ?_ | refine AWi.condK fun _ _ => ?_); simp [-getElem?_pos, z0, z1, z2, h0]) | ((first | refine AWi.ret ?_ | refine AWi.skip ?_ | refine AWi.exit ?_); try simp only [thenP]) | (with_reducible refine BB.go ?_; simp only [blockP, thenP, reduceIte]))
    refine RI.ret rfl ⟨by omega, ?_, fun j hj => by (try dsimp only); repeat (first | rw [setMem_lt (by omega)] | rw [putN_lt (by omega)])⟩
    rw [whP, if_neg h0]
    rfl
end Go.Proofs.Ytdkneonokbakjaa.Eng

noncomputable section
namespace Go.Proofs.Ytdkneonokbakjaa.Eng
open Go.RowKit
set_option maxRecDepth 100000
set_option maxHeartbeats 8000000
section
variable {P : Program} {r : Option Nat} {ops : Array Oper} {ns n : Nat} {o : Oper} {l : List Oper} {s : St} {Q : Nat → St → Prop}
end
theorem WhAt.set {s : RS} {ps : List Int} {A : Rgs} {w j : Nat} {m : Mem} {b : Option Blk} (h : WhAt s ps A w m) (hj : w ≠ j) : WhAt s ps A w (setMem m j b) := (if_neg hj).trans h
end Go.Proofs.Ytdkneonokbakjaa.Eng

namespace Go.Proofs.Ytdkneonokbakjaa
open Go.RowKit
section
variable {P : Program}
theorem run_copy_wide (w : World) (dT sT ty elem : TypeId) (size g n dCap : Nat) (a : Addr) (sCap : Nat) (cur : Array Value) (t : TypeId) (cs : List Value)
    (hu : P.underlying dT = some (.slice elem)) (hs : (P.info? elem).map (·.size) = some size)
    (hg : w.heap[g]? = some (.cells cur t (0, 0))) (hn : cs.length = n * size)
    (hsrc : ∀ j v, cs[j]? = some v → w.cell? (a.add j) = some v) (hfit : cs.length ≤ cur.size) (h1 : ∀ v ∈ cs, v.oneCell' = true) :
    (Builtin.copy_ #[dT, sT] ty #[.slice (some ⟨g, 0, none⟩) n dCap, .slice (some a) n sCap]).run P w =
      .ok (goInt n) (w.setRow g (cs ++ cur.toList.drop cs.length).toArray) := by
  have hl := run_loadCells_list (P := P) w a cs hsrc
  have hst := run_storeCells_at P g 0 t cs 0 cur w hg (by simpa using hfit) h1
  simp only [Nat.zero_add, List.take_zero, List.nil_append] at hst
  cases hq : P.info? elem with
  | none => simp [hq] at hs
  | some i =>
    have hi : i.size = size := by simpa [hq] using hs
    have hm : Nat.min n n = n := Nat.min_self n
    simp [Builtin.copy_, run_underlying hu, Builtin.lenOf, Builtin.firstCells, sizeOf, typeInfo, hq, hi, hm, ← hn, hl, hst]
theorem run_copy_empty (w : World) (dT sT ty elem : TypeId) (size g dCap c : Nat) (hu : P.underlying dT = some (.slice elem)) (hs : (P.info? elem).map (·.size) = some size) :
    (Builtin.copy_ #[dT, sT] ty #[.slice (some ⟨g, 0, none⟩) 0 dCap, .slice none 0 c]).run P w = .ok (goInt 0) w := by
  cases hq : P.info? elem with
  | none => simp [hq] at hs
  | some i => simp [Builtin.copy_, run_underlying hu, Builtin.lenOf, Builtin.firstCells, sizeOf, typeInfo, hq, storeCells]
end
end Go.Proofs.Ytdkneonokbakjaa

namespace Go.Proofs.Ytdkneonokbakjaa.Eng
open Go.RowKit
variable {P : Program} {T : Tab} {r : Option Nat} {ns n : Nat} {s : St}
theorem setMem_id {m : Mem} {i : Nat} {b : Option Blk} (h : m i = b) : setMem m i b = m := by
  funext j
  unfold setMem
  split
  · rename_i e; rw [e, h]
  · rfl
theorem stepI_copy1 (hT : TabOk P T) {o : Oper} {x y : Operand} {t t' e ty : TypeId} {i ie : TI} (ho : o.op = .call { callee := .builtin .copy, args := #[x, y], argTypes := #[t, t'] }) (hi : T t = some i) (hk : i.kind = .slice e) (hie : T e = some ie) (h1 : ie.size = 1) {id k : Nat} {rows rows0 : List (List Dat)} (hl : rows.length = k) (hl0 : rows0.length = k) (hr1 : ∀ q ∈ rows, q.length = 1)
    (hx : opd ns s x = some (.own id k 1)) (hm : s.mem id = some (.row ty 1 rows0 false)) (hy : opd ns s y = some (.d (.list rows))) :
    StepI P r ns n s o fun n' s' => n' = n ∧ s' = ⟨setSlot s.slots o.dst (.d (.val (.int .i64 k))), setMem s.mem id (some (.row ty 1 rows false))⟩ := by
  intro W0 R0 B E a w hin h hd K Q hK
  refine oper_in (fun c e => by rw [ho] at e; cases e) ?_
  have hu := slice_und (hT t i hi) hk
  have hsz : (P.info? e).map (·.size) = some 1 := by
    obtain ⟨inf, z, a1, a2, -⟩ := (hT e ie hie).info
    rw [a1, ← h1, ← a2]; rfl
  obtain ⟨u, hu'⟩ : ∃ u, a.eval x = u := ⟨_, rfl⟩
  obtain ⟨v, hv'⟩ : ∃ v, a.eval y = v := ⟨_, rfl⟩
  have hrx := h.opd hx
  have hry := h.opd hy
  rw [hu'] at hrx
  rw [hv'] at hry
  subst hl
  cases hrx with
  | own _ _ _ hdm hz =>
  cases hry with
  | d _ _ hry =>
  cases hry with
  | list _ A c f q1 q2 q3 q4 q5 =>
  have hro : ¬ E.ro (E.home id).blk := fun k => by have := (h.frz id _ hm).2 k; cases this
  cases h.mem id _ hm with
  | row _ _ _ _ cur g1 g2 g3 g4 g5 g6 g7 g8 =>
  cases hrow : rows with
  | nil =>
    subst hrow
    obtain rfl : rows0 = [] := List.length_eq_zero_iff.1 hl0
    have hrun : (Builtin.copy_ #[t, t'] o.type #[.slice (some ⟨(E.home id).blk, 0, none⟩) 0 (E.home id).cap, .slice A 0 c]).run P w = .ok (goInt 0) w := by
      cases A with
      | none => exact run_copy_empty w t t' o.type e 1 (E.home id).blk (E.home id).cap c hu hsz
      | some ad =>
        have := run_copy_wide w t t' o.type e 1 (E.home id).blk 0 (E.home id).cap ad c cur ty [] hu hsz g1 (by simp) (fun j v h => by simp at h) (by simp) (fun v h => by cases h)
        rw [this]
        have e1 : (([] : List Value) ++ cur.toList.drop ([] : List Value).length).toArray = cur := by simp
        rw [e1, setRow_self _ _ _ _ _ g1]; rfl
    have he : (execOp a.eval o).run P w = .ok (.value (goInt 0)) w := by
      simp only [execOp, ho, resolve, invoke, builtin, Sem.run_bind, Sem.run_pure, Result.andThen_ok, List.map_toArray, List.map_cons, List.map_nil, hu', hv', List.length_nil, hrun]
    unfold Oper.wp
    rw [he]
    refine hK n _ E _ _ ⟨rfl, ?_⟩ (h.put hd (rep_val (u := goInt 0) rfl))
    rw [setMem_id hm]
    rfl
  | cons r0 rest =>
    have hpos : 0 < rows.length := by rw [hrow]; simp
    obtain ⟨b, off, esz, rfl, hb, hz1, hcell⟩ := q4 hpos
    obtain rfl : esz = 1 := by rw [← hz1 r0 (by rw [hrow]; simp), hr1 r0 (by rw [hrow]; simp)]
    let cs : List Value := (List.range rows.length).map fun i => f i 0
    have hcl : cs.length = rows.length := by simp [cs]
    have hcj : ∀ (j : Nat) v, cs[j]? = some v → j < rows.length ∧ v = f j 0 := fun j v hv => by
      simp only [cs, List.getElem?_map, Option.map_eq_some_iff] at hv
      obtain ⟨q, hq, rfl⟩ := hv
      obtain ⟨hq1, hq2⟩ := List.getElem?_eq_some_iff.1 hq
      simp at hq1 hq2
      subst hq2
      exact ⟨hq1, rfl⟩
    have hrep : ∀ (j : Nat) (hj : j < rows.length), ∃ d, rows[j] = [d] ∧ RepD E.ro w d (f j 0) ∧ d.one = true := fun j hj => by
      have h2 := hr1 rows[j] (List.getElem_mem hj)
      obtain ⟨d, hd2⟩ := List.length_eq_one_iff.1 h2
      exact ⟨d, hd2, q5 j 0 rows[j] d (List.getElem?_eq_getElem hj) (by rw [hd2]; rfl), q3 rows[j] (List.getElem_mem hj) d (by rw [hd2]; simp)⟩
    have hcap : rows.length ≤ cur.size := by rw [g3, ← hl0]; omega
    have hone : ∀ v ∈ cs, v.oneCell' = true := fun v hv => by
      obtain ⟨j, hj⟩ := List.mem_iff_getElem?.1 hv
      obtain ⟨h3, rfl⟩ := hcj j v hj
      obtain ⟨d, -, h4, h5⟩ := hrep j h3
      exact h4.one h5
    have hrun := run_copy_wide (P := P) w t t' o.type e 1 (E.home id).blk rows.length (E.home id).cap ⟨b, off, none⟩ c cur ty cs hu hsz g1 (by rw [hcl, Nat.mul_one]) (fun j v hv => by
      obtain ⟨h3, rfl⟩ := hcj j v hv
      have := hcell j 0 h3 (by omega)
      rw [Nat.mul_one, Nat.add_zero] at this
      by_cases hj0 : j = 0
      · subst hj0; simpa [Addr.add] using this
      · simpa [Addr.add, hj0] using this) (by rw [hcl]; exact hcap) hone
    have he : (execOp a.eval o).run P w = .ok (.value (goInt rows.length)) (w.setRow (E.home id).blk (cs ++ cur.toList.drop cs.length).toArray) := by
      simp only [execOp, ho, resolve, invoke, builtin, Sem.run_bind, Sem.run_pure, Result.andThen_ok, List.map_toArray, List.map_cons, List.map_nil, hu', hv', hrun]
    have hw : ∀ b, E.ro b → (w.setRow (E.home id).blk (cs ++ cur.toList.drop cs.length).toArray).heap[b]? = w.heap[b]? := fun b hb => setRow_other _ _ _ _ (fun e => hro (e ▸ hb))
    have h6 : Sim W0 R0 ns (· < n) ⟨s.slots, setMem s.mem id (some (.row ty 1 rows false))⟩ E a (w.setRow (E.home id).blk (cs ++ cur.toList.drop cs.length).toArray) :=
      h.write hm rfl rfl (grown_setRow _ _ _) (.row ty 1 rows false _ (setRow_heap _ _ _ _ _ _ g1) g2 (by simp; omega) (by rw [← hl0]; exact g4) g5 hr1 q3 fun i j q c v hq hc hv => by
        have hi2 := (List.getElem?_eq_some_iff.1 hq).1
        have hj0 : j = 0 := by
          have := (List.getElem?_eq_some_iff.1 hc).1
          rw [hr1 q (List.mem_of_getElem? hq)] at this
          omega
        subst hj0
        have h7 := q5 i 0 q c hq hc
        rw [Nat.mul_one, Nat.add_zero, List.getElem?_toArray, List.getElem?_append_left (by rw [hcl]; exact hi2)] at hv
        obtain ⟨-, rfl⟩ := hcj i v hv
        exact h7.keep (fun _ h => h) hw)
    unfold Oper.wp
    rw [he]
    exact hK n _ E _ _ ⟨rfl, rfl⟩ (h6.put hd (rep_val rfl))
theorem ExecS.copy1 (hT : TabOk P T) {ops : Array Oper} {o : Oper} {lo : List Oper} {Q : Nat → St → Prop} {x y : Operand} {c : Call} {t t' e ty : TypeId} {i ie : TI} (ho : o.op = .call c) (hc1 : c.callee = .builtin .copy) (hc2 : c.args.toList = [x, y]) (hc3 : c.argTypes.toList = [t, t']) (hg : guardS ops ns s o = some true) (hi : T t = some i) (hk : i.kind = .slice e) (hie : T e = some ie) (h1 : ie.size = 1) {id k : Nat} {rows rows0 : List (List Dat)} (hl : rows.length = k) (hl0 : rows0.length = k) (hr1 : ∀ q ∈ rows, q.length = 1)
    (hx : opd ns s x = some (.own id k 1)) (hm : s.mem id = some (.row ty 1 rows0 false)) (hy : opd ns s y = some (.d (.list rows)))
    (h : ExecS P r ns ops n lo ⟨setSlot s.slots o.dst (.d (.val (.int .i64 k))), setMem s.mem id (some (.row ty 1 rows false))⟩ Q) : ExecS P r ns ops n (o :: lo) s Q :=
  ⟨hg, _, stepI_copy1 hT (by rw [call_eq hc1 hc2 hc3] at ho; exact ho) hi hk hie h1 hl hl0 hr1 hx hm hy, fun n' s' ⟨e1, e2⟩ => by rw [e1, e2]; exact h⟩
end Go.Proofs.Ytdkneonokbakjaa.Eng

noncomputable section
namespace Go.Proofs.Ytdkneonokbakjaa.Eng
open Go.RowKit
set_option maxRecDepth 100000
set_option maxHeartbeats 8000000
theorem grownL_c (L : List Int) (x : Int) (hl : L.length ≤ 100000) : ACall Try.prog 82 [intL L, iD x] (intL (L ++ [x])) := by
  have b1 : fitsB (L.length + 1) 8 = true := fitsB_small (by omega) (by omega)
  refine acallK tabOk Try.func82 rfl rfl (show 2 ≤ _ by decide) rfl fun _ => ?_; simp only [Try.ntmps82]
  repeat (first | (with_reducible first | refine zq1 fun _ => ?_ | refine zq2 fun _ => ?_ | refine zq3 ?_) | ((first | refine zq4 ?_ | refine zq5 fun _ _ => ?_ | refine zq6 ?_); simp [-getElem?_pos, z0, z1, z2, b1]) | ((first | refine AWp.ret ?_ | refine AWp.skip ?_ | refine AWp.exit ?_); try simp only [thenP]) | (with_reducible refine zq7 ?_; simp only [blockP, thenP, reduceIte]) | with_reducible refine zq8 ?_)
  (first | refine RR.ret ?_ | refine RR.normal ?_); simp [z0]
theorem takenL_w (L : List Int) (hl : L.length ≤ 1000000) (n : Nat) (m : Mem) : CWp Try.prog 83 [.d (intL L)] n m fun y _ m' => (∃ id z ty, n ≤ id ∧ y = .own id (iRows L).length z ∧ m' id = some (.row ty z (iRows L) false)) ∧ ∀ j, j < n → m' j = m j := by
  have b1 : 8 * (L.length : Int) ≤ 140737488355328 := by omega
  have b2 : (L.length : Int) ≤ 9223372036854775807 := by omega
  refine cwpK tabOk Try.func83 rfl rfl (show 1 ≤ _ by decide) rfl fun _ => ?_; simp only [Try.ntmps83]
  refine AWi.seqK fun _ => ?_
  refine AWi.region tabOk ?_
  simp [-getElem?_pos, z0, z1, z2]
  with_reducible refine KI.go ?_
  refine AWi.seqK fun _ => ?_
  refine AWi.region tabOk ?_
  simp [-getElem?_pos, z0, z1, z2, b1, b2]
  with_reducible refine KI.go ?_
  refine AWi.seqK fun _ => ?_
  refine AWi.regionS ?_
  refine ExecS.plain tabOk (out := { res := .own (n + 1 + 1 + 1) L.length 1 }) rfl rfl (by simp [-getElem?_pos, z0, z1, z2]) ?_
  refine ExecS.plain tabOk (out := { res := .d (intL L) }) rfl rfl (by simp [-getElem?_pos, z0, z1, z2]) ?_
  refine ExecS.copy1 tabOk (ty := 2) (id := n + 1 + 1 + 1) (k := L.length) (rows := iRows L) (rows0 := List.replicate L.length [.val (.int .i64 0)]) rfl rfl rfl rfl rfl (TB26) rfl (TB2) rfl (by simp [iRows]) (by simp) (by simp [iRows]) (by simp [-getElem?_pos, z0, z1, z2]) (by simp [putS]) (by simp [-getElem?_pos, z0, z1, z2]) ?_
  simp [putS, ExecS]
  with_reducible refine KI.go ?_
  repeat (first | (with_reducible first | refine AWi.seqK fun _ => ?_ | refine AWi.blockK fun _ => ?_ | refine KI.go ?_) | ((first | refine AWi.region tabOk ?_ | refine AWi.condK fun _ _ => ?_ | refine AWi.draws tabOk rfl (by kernel_rfl) (by kernel_rfl) ?_); simp [-getElem?_pos, z0, z1, z2, z0]) | ((first | refine AWi.ret ?_ | refine AWi.skip ?_ | refine AWi.exit ?_); try simp only [thenP]) | (with_reducible refine BB.go ?_; simp only [blockP, thenP, reduceIte]) | (with_reducible refine And.intro (okLog_c (by simp [footOf, guardSlot, slotsOf, idsRead, looks, idsOf, idsOf1, idsWritten, colF]; kernel_rfl)) ?_))
  first
    | exact RI.ret rfl ⟨⟨n + 1 + 1 + 1, 1, 2, by omega, by simp [iRows, retV], by simp⟩, fun j hj => by simp [show ¬ j = n + 1 + 1 + 1 by omega]⟩
    | exact RI.normal rfl ⟨⟨n + 1 + 1 + 1, 1, 2, by omega, by simp [iRows, retV], by simp⟩, fun j hj => by simp [show ¬ j = n + 1 + 1 + 1 by omega]⟩
theorem takenL_c (L : List Int) (hl : L.length ≤ 1000000) : ACall Try.prog 83 [intL L] (intL L) :=
  ACall.ofR (RCall.ofOwn (n0 := 0) fun n _ => takenL_w L hl n _)
def lsV : List Int → SV
  | [] => .nilS
  | x :: L => .d (intL (x :: L))
theorem lsV_nil : lsV [] = .nilS := rfl
theorem lsV_cons (x : Int) (L : List Int) : lsV (x :: L) = .d (intL (x :: L)) := rfl
theorem froms_x (l : List (Int × Int)) (hl : l.length ≤ 1000) : ACall Try.prog 65 [runsD l] (intL (l.map (·.1))) := by
  obtain ⟨T, hT0, hTl, hTn, hTe⟩ := grow_fst l
  rw [← hTe]
  have ct := takenL_c (T l.length) (by have := hTl l.length; omega)
  refine acallK tabOk Try.func65 rfl rfl (show 1 ≤ _ by decide) rfl fun _ => ?_; simp only [Try.ntmps65]
  repeat (first | (with_reducible first | refine zq1 fun _ => ?_ | refine zq2 fun _ => ?_ | refine zq3 ?_) | ((first | refine zq4 ?_ | refine zq5 fun _ _ => ?_ | refine zq6 ?_); simp [-getElem?_pos, z0, z1, z2, z0]) | ((first | refine AWp.ret ?_ | refine AWp.skip ?_ | refine AWp.exit ?_); try simp only [thenP]) | (with_reducible refine zq7 ?_; simp only [blockP, thenP, reduceIte]) | with_reducible refine zq8 ?_)
  refine AWp.loopK (ι := { i : Nat // i ≤ l.length }) (n := 0) (fun i => [(3, lsV (T i.1)), (6, .d (runsD l)), (7, .d (iD l.length)), (8, .d (iD i.1))]) (fun i => []) (fun i => l.length - i.1) ⟨0, Nat.zero_le _⟩ [] ?_ ?_
  · refine ⟨by rfl, by simp [lsV_nil, hT0], by simp [or_imp, forall_and, lsV_nil, hT0] <;> (try (intro _hne; simp [_hne])), by decide⟩
  rintro ⟨i, hi⟩ kk
  have w1 : IntKind.i64.wrap ((i : Int) + 1) = (i : Int) + 1 := wrap64_in (by omega)
  have hTi := hTl i
  by_cases hlt : i < l.length
  · have hii : (i : Int) < l.length := by omega
    obtain ⟨⟨x, p⟩, hx⟩ : ∃ r, l[i]? = some r := ⟨_, List.getElem?_eq_getElem hlt⟩
    have cg := grownL_c (T i) x (by omega)
    have hne : lsV (T (i + 1)) = .d (intL (T (i + 1))) := by
      rw [hTn i x p hx]
      cases T i <;> rfl
    rw [← hTn i x p hx] at cg
    obtain hR | ⟨y, o, hR⟩ : T i = [] ∨ ∃ y o, T i = y :: o := by
      cases T i with
      | nil => exact .inl rfl
      | cons y o => exact .inr ⟨y, o, rfl⟩
    · rw [hR, show intL [] = .list [] from rfl] at cg
      repeat (first | (with_reducible first | refine zq1 fun _ => ?_ | refine zq2 fun _ => ?_ | refine zq3 ?_) | ((first | refine zq4 ?_ | refine zq5 fun _ _ => ?_ | refine zq6 ?_); simp [-getElem?_pos, z0, z1, z2, hii, hlt, hx, hR, lsV_nil, lsV_cons]) | ((first | refine AWp.ret ?_ | refine AWp.skip ?_ | refine AWp.exit ?_); try simp only [thenP]) | (with_reducible refine zq7 ?_; simp only [blockP, thenP, reduceIte]) | with_reducible refine zq8 ?_)
      (first | refine Exec0.call [] cg ?_ rfl ?_ ?_ | refine Exec.call [] cg ?_ rfl ?_ ?_); (focus simp [-getElem?_pos, hx]); (focus simp [-getElem?_pos, z0, z1, z2, hx]); simp [-getElem?_pos, z0, z1, z2, hx]
      repeat (first | (with_reducible first | refine zq1 fun _ => ?_ | refine zq2 fun _ => ?_ | refine zq3 ?_) | ((first | refine zq4 ?_ | refine zq5 fun _ _ => ?_ | refine zq6 ?_); simp [-getElem?_pos, z0, z1, z2, w1]) | ((first | refine AWp.ret ?_ | refine AWp.skip ?_ | refine AWp.exit ?_); try simp only [thenP]) | (with_reducible refine zq7 ?_; simp only [blockP, thenP, reduceIte]) | with_reducible refine zq8 ?_)
      refine LL.go ⟨i + 1, hlt⟩ [] ⟨by rfl, by simp [hne], by simp [or_imp, forall_and, hne] <;> (try (intro _hne; simp [_hne])), by decide⟩ ?_
      simp; omega
    · rw [hR] at cg
      repeat (first | (with_reducible first | refine zq1 fun _ => ?_ | refine zq2 fun _ => ?_ | refine zq3 ?_) | ((first | refine zq4 ?_ | refine zq5 fun _ _ => ?_ | refine zq6 ?_); simp [-getElem?_pos, z0, z1, z2, hii, hlt, hx, hR, lsV_nil, lsV_cons]) | ((first | refine AWp.ret ?_ | refine AWp.skip ?_ | refine AWp.exit ?_); try simp only [thenP]) | (with_reducible refine zq7 ?_; simp only [blockP, thenP, reduceIte]) | with_reducible refine zq8 ?_)
      (first | refine Exec0.call [] cg ?_ rfl ?_ ?_ | refine Exec.call [] cg ?_ rfl ?_ ?_); (focus simp [-getElem?_pos, hx]); (focus simp [-getElem?_pos, z0, z1, z2, hx]); simp [-getElem?_pos, z0, z1, z2, hx]
      repeat (first | (with_reducible first | refine zq1 fun _ => ?_ | refine zq2 fun _ => ?_ | refine zq3 ?_) | ((first | refine zq4 ?_ | refine zq5 fun _ _ => ?_ | refine zq6 ?_); simp [-getElem?_pos, z0, z1, z2, w1]) | ((first | refine AWp.ret ?_ | refine AWp.skip ?_ | refine AWp.exit ?_); try simp only [thenP]) | (with_reducible refine zq7 ?_; simp only [blockP, thenP, reduceIte]) | with_reducible refine zq8 ?_)
      refine LL.go ⟨i + 1, hlt⟩ [] ⟨by rfl, by simp [hne], by simp [or_imp, forall_and, hne] <;> (try (intro _hne; simp [_hne])), by decide⟩ ?_
      simp; omega
  · obtain rfl : i = l.length := by omega
    obtain hR | ⟨y, o, hR⟩ : T l.length = [] ∨ ∃ y o, T l.length = y :: o := by
      cases T l.length with
      | nil => exact .inl rfl
      | cons y o => exact .inr ⟨y, o, rfl⟩
    · rw [hR, show intL [] = .list [] from rfl] at ct
      repeat (first | (with_reducible first | refine zq1 fun _ => ?_ | refine zq2 fun _ => ?_ | refine zq3 ?_) | ((first | refine zq4 ?_ | refine zq5 fun _ _ => ?_ | refine zq6 ?_); simp [-getElem?_pos, z0, z1, z2, hlt, hR, lsV_nil, lsV_cons]) | ((first | refine AWp.ret ?_ | refine AWp.skip ?_ | refine AWp.exit ?_); try simp only [thenP]) | (with_reducible refine zq7 ?_; simp only [blockP, thenP, reduceIte]) | with_reducible refine zq8 ?_)
      (first | refine Exec0.call [] ct ?_ rfl ?_ ?_ | refine Exec.call [] ct ?_ rfl ?_ ?_); (focus simp [-getElem?_pos, z0]); (focus simp [-getElem?_pos, z0, z1, z2, z0]); simp [-getElem?_pos, z0, z1, z2, z0]
      repeat (first | (with_reducible first | refine zq1 fun _ => ?_ | refine zq2 fun _ => ?_ | refine zq3 ?_) | ((first | refine zq4 ?_ | refine zq5 fun _ _ => ?_ | refine zq6 ?_); simp [-getElem?_pos, z0, z1, z2, z0]) | ((first | refine AWp.ret ?_ | refine AWp.skip ?_ | refine AWp.exit ?_); try simp only [thenP]) | (with_reducible refine zq7 ?_; simp only [blockP, thenP, reduceIte]) | with_reducible refine zq8 ?_)
      (first | refine RR.ret ?_ | refine RR.normal ?_); simp [hR, iRows]
    · rw [hR] at ct
      repeat (first | (with_reducible first | refine zq1 fun _ => ?_ | refine zq2 fun _ => ?_ | refine zq3 ?_) | ((first | refine zq4 ?_ | refine zq5 fun _ _ => ?_ | refine zq6 ?_); simp [-getElem?_pos, z0, z1, z2, hlt, hR, lsV_nil, lsV_cons]) | ((first | refine AWp.ret ?_ | refine AWp.skip ?_ | refine AWp.exit ?_); try simp only [thenP]) | (with_reducible refine zq7 ?_; simp only [blockP, thenP, reduceIte]) | with_reducible refine zq8 ?_)
      (first | refine Exec0.call [] ct ?_ rfl ?_ ?_ | refine Exec.call [] ct ?_ rfl ?_ ?_); (focus simp [-getElem?_pos, z0]); (focus simp [-getElem?_pos, z0, z1, z2, z0]); simp [-getElem?_pos, z0, z1, z2, z0]
      repeat (first | (with_reducible first | refine zq1 fun _ => ?_ | refine zq2 fun _ => ?_ | refine zq3 ?_) | ((first | refine zq4 ?_ | refine zq5 fun _ _ => ?_ | refine zq6 ?_); simp [-getElem?_pos, z0, z1, z2, z0]) | ((first | refine AWp.ret ?_ | refine AWp.skip ?_ | refine AWp.exit ?_); try simp only [thenP]) | (with_reducible refine zq7 ?_; simp only [blockP, thenP, reduceIte]) | with_reducible refine zq8 ?_)
      (first | refine RR.ret ?_ | refine RR.normal ?_); simp [hR]
end Go.Proofs.Ytdkneonokbakjaa.Eng

noncomputable section
namespace Go.Proofs.Ytdkneonokbakjaa.Eng
open Go.RowKit
set_option maxRecDepth 100000
set_option maxHeartbeats 8000000
def decAt (l : List Int) (i : Nat) : Bool := if i = 0 then true else match l[i - 1]?, l[i]? with
  | some y, some x => decide (x < y)
  | _, _ => true
def lenB (s : RS) (l : List Int) : Bool := (List.range l.length).all (decAt l) && fromZn s.short s.long l
theorem areLengths_c (s : RS) (l : List Int) (hl : l.length ≤ 1000000) : ACall Try.prog 66 [stoD s, intL l] (bD (lenB s l)) := by
  have cf := areFrom_c s.short s.long l hl
  obtain ⟨r, hr⟩ : ∃ r, r = lenB s l := ⟨_, rfl⟩
  rw [← hr]
  refine acallK tabOk Try.func66 rfl rfl (show 2 ≤ _ by decide) rfl fun _ => ?_; simp only [Try.ntmps66]
  repeat (first | (with_reducible first | refine zq1 fun _ => ?_ | refine zq2 fun _ => ?_ | refine zq3 ?_) | ((first | refine zq4 ?_ | refine zq5 fun _ _ => ?_ | refine zq6 ?_); simp [-getElem?_pos, z0, z1, z2, z0]) | ((first | refine AWp.ret ?_ | refine AWp.skip ?_ | refine AWp.exit ?_); try simp only [thenP]) | (with_reducible refine zq7 ?_; simp only [blockP, thenP, reduceIte]) | with_reducible refine zq8 ?_)
  refine AWp.loopK (ι := { i : Nat // i ≤ l.length ∧ (List.range i).all (decAt l) = true }) (n := 1) (fun i => [(1, .d (intL l)), (2, .ptr 0 0 0), (7, .d (intL l)), (8, .d (iD l.length)), (9, .d (iD i.1))]) (fun i => [(0, .box 25 [.d (iD s.long), .d (iD s.short), .d (iD s.off), .d (iD s.lo), .d (iD s.hi)] false)]) (fun i => l.length - i.1) ⟨0, Nat.zero_le _, rfl⟩ [0] ?_ ?_
  · refine ⟨by rfl, by simp [z0], by simp [or_imp, forall_and, z0] <;> (try (intro _hne; simp [_hne])), by decide⟩
  rintro ⟨i, hi, hall⟩ kk
  by_cases hlt : i < l.length
  · have hii : (i : Int) < l.length := by omega
    obtain ⟨x, hx⟩ : ∃ r, l[i]? = some r := ⟨_, List.getElem?_eq_getElem hlt⟩
    cases i with
    | zero =>
      have w10 : IntKind.i64.wrap 1 = 1 := by decide
      repeat (first | (with_reducible first | refine zq1 fun _ => ?_ | refine zq2 fun _ => ?_ | refine zq3 ?_) | ((first | refine zq4 ?_ | refine zq5 fun _ _ => ?_ | refine zq6 ?_); simp [-getElem?_pos, z0, z1, z2, hii, hlt, hx, w10]) | ((first | refine AWp.ret ?_ | refine AWp.skip ?_ | refine AWp.exit ?_); try simp only [thenP]) | (with_reducible refine zq7 ?_; simp only [blockP, thenP, reduceIte]) | with_reducible refine zq8 ?_)
      refine LL.go ⟨0 + 1, hlt, all_succ hall rfl⟩ [0] ⟨by rfl, by simp [], by simp [or_imp, forall_and, ] <;> (try (intro _hne; simp [_hne])), by decide⟩ ?_
      simp; omega
    | succ j =>
      obtain ⟨y, hy⟩ : ∃ r, l[j]? = some r := ⟨_, List.getElem?_eq_getElem (by omega)⟩
      have hd : decAt l (j + 1) = decide (x < y) := by rw [decAt, if_neg (Nat.succ_ne_zero j), Nat.add_sub_cancel, hx, hy]
      have w3 : IntKind.i64.wrap (j : Int) = (j : Int) := wrap64_in (by omega)
      have w5 : IntKind.i64.wrap ((j : Int) + 1 + 1) = (j : Int) + 1 + 1 := wrap64_in (by omega)
      have hq0 : (0 : Int) < (j : Int) + 1 := by omega
      have hqi : (j : Int) + 1 < l.length := by omega
      have hqp : 0 ≤ (j : Int) + 1 := by omega
      have hqt : ((j : Int) + 1).toNat = j + 1 := by omega
      by_cases c3 : y ≤ x
      · have hr' : r = false := by rw [hr, lenB, all_no hlt (hd.trans (decide_eq_false (by omega)))]; rfl
        repeat (first | (with_reducible first | refine zq1 fun _ => ?_ | refine zq2 fun _ => ?_ | refine zq3 ?_) | ((first | refine zq4 ?_ | refine zq5 fun _ _ => ?_ | refine zq6 ?_); simp [-getElem?_pos, z0, z1, z2, hii, hlt, hx, hy, w3, w5, hq0, hqi, hqp, hqt, c3]) | ((first | refine AWp.ret ?_ | refine AWp.skip ?_ | refine AWp.exit ?_); try simp only [thenP]) | (with_reducible refine zq7 ?_; simp only [blockP, thenP, reduceIte]) | with_reducible refine zq8 ?_)
        (first | refine RR.ret ?_ | refine RR.normal ?_); simp [hr']
      · repeat (first | (with_reducible first | refine zq1 fun _ => ?_ | refine zq2 fun _ => ?_ | refine zq3 ?_) | ((first | refine zq4 ?_ | refine zq5 fun _ _ => ?_ | refine zq6 ?_); simp [-getElem?_pos, z0, z1, z2, hii, hlt, hx, hy, w3, w5, hq0, hqi, hqp, hqt, c3]) | ((first | refine AWp.ret ?_ | refine AWp.skip ?_ | refine AWp.exit ?_); try simp only [thenP]) | (with_reducible refine zq7 ?_; simp only [blockP, thenP, reduceIte]) | with_reducible refine zq8 ?_)
        refine LL.go ⟨j + 1 + 1, hlt, all_succ hall (hd.trans (decide_eq_true (by omega)))⟩ [0] ⟨by rfl, by simp [], by simp [or_imp, forall_and, ] <;> (try (intro _hne; simp [_hne])), by decide⟩ ?_
        simp; omega
  · obtain rfl : i = l.length := by omega
    have hr' : fromZn s.short s.long l = r := by rw [hr, lenB, hall, Bool.true_and]
    rw [hr'] at cf
    repeat (first | (with_reducible first | refine zq1 fun _ => ?_ | refine zq2 fun _ => ?_ | refine zq3 ?_) | ((first | refine zq4 ?_ | refine zq5 fun _ _ => ?_ | refine zq6 ?_); simp [-getElem?_pos, z0, z1, z2, hlt]) | ((first | refine AWp.ret ?_ | refine AWp.skip ?_ | refine AWp.exit ?_); try simp only [thenP]) | (with_reducible refine zq7 ?_; simp only [blockP, thenP, reduceIte]) | with_reducible refine zq8 ?_)
    (first | refine Exec0.call [] cf ?_ rfl ?_ ?_ | refine Exec.call [] cf ?_ rfl ?_ ?_); (focus simp [-getElem?_pos, z0]); (focus simp [-getElem?_pos, z0, z1, z2, z0]); simp [-getElem?_pos, z0, z1, z2, z0]
    repeat (first | (with_reducible first | refine zq1 fun _ => ?_ | refine zq2 fun _ => ?_ | refine zq3 ?_) | ((first | refine zq4 ?_ | refine zq5 fun _ _ => ?_ | refine zq6 ?_); simp [-getElem?_pos, z0, z1, z2, z0]) | ((first | refine AWp.ret ?_ | refine AWp.skip ?_ | refine AWp.exit ?_); try simp only [thenP]) | (with_reducible refine zq7 ?_; simp only [blockP, thenP, reduceIte]) | with_reducible refine zq8 ?_)
    (first | refine RR.ret ?_ | refine RR.normal ?_); simp [z0]
abbrev lastF (n : Nat) : SV := .fn 76 [] [.ptr (n + 1) 0 0, .ptr n 0 0]
abbrev lastM (m : Mem) (w : Nat) (l : List (Int × Int)) (n : Nat) : Mem := setMem (setMem m n (some (.box 76 [.ptr w 0 0] false))) (n + 1) (some (.box 36 [.d (runsD l)] false))
theorem lasts_w (w : Nat) (l : List (Int × Int)) (n : Nat) (m : Mem) : CWp Try.prog 57 [.ptr w 0 0, .d (runsD l)] n m fun y n' m' => lastF n = y ∧ n + 1 + 1 + 1 + 1 + 1 = n' ∧ lastM m w l n = m' := by
  refine cwpK tabOk Try.func57 rfl rfl (show 2 ≤ _ by decide) rfl fun _ => ?_; simp only [Try.ntmps57]
  repeat (first | (with_reducible first | refine AWi.seqK fun _ => ?_ | refine AWi.blockK fun _ => ?_ | refine KI.go ?_) | ((first | refine AWi.region tabOk ?_ | refine AWi.condK fun _ _ => ?_); simp [-getElem?_pos, z0, z1, z2, z0]) | ((first | refine AWi.ret ?_ | refine AWi.skip ?_ | refine AWi.exit ?_); try simp only [thenP]) | (with_reducible refine BB.go ?_; simp only [blockP, thenP, reduceIte]))
  exact RI.ret rfl ⟨rfl, rfl, rfl⟩
def lastV (s : RS) (l : List (Int × Int)) (i : Nat) : List SV := [.agg [.d (iD (l.getD i (0, 0)).1), .d (iD (l.getD i (0, 0)).2)], .d (iD (endR s l i))]
theorem lasts1_w {s : RS} {ps : List Int} {A : Rgs} (hg : GoodR s) (w k0 k1 : Nat) (l : List (Int × Int)) (hl : l.length ≤ 20) (hin : ∀ (i : Nat) (x p : Int), l[i]? = some (x, p) → 0 ≤ x ∧ x ≤ 100000) :
    Iterates Try.prog 76 (fun Y => [Y, .ptr k1 0 0, .ptr k0 0 0]) ((List.range l.length).map (lastV s l)) fun m =>
      WhAt s ps A w m ∧ (∃ z, m k0 = some (.box 76 [.ptr w 0 0] z)) ∧ (∃ z, m k1 = some (.box 36 [.d (runsD l)] z)) := by
  intro Y n0 I J hY hI hJ hk hy n m hn h0
  obtain ⟨-, ⟨z0', hz0⟩, ⟨z1', hz1⟩⟩ := hk _ _ h0
  have lw : w < n0 := Below'.lt (hI 0) h0 fun m h e => by have := (hk _ _ h).1; unfold WhAt at this; rw [e] at this; cases this
  have l0 : k0 < n0 := Below'.lt (hI 0) h0 fun m h e => by obtain ⟨z, h1⟩ := (hk _ _ h).2.1; rw [e] at h1; cases h1
  have l1 : k1 < n0 := Below'.lt (hI 0) h0 fun m h e => by obtain ⟨z, h1⟩ := (hk _ _ h).2.2; rw [e] at h1; cases h1
  refine cwpK tabOk Try.func76 rfl rfl (show 3 ≤ _ by decide) rfl fun _ => ?_; simp only [Try.ntmps76]
  repeat (first | (with_reducible first | refine AWi.seqK fun _ => ?_ | refine AWi.blockK fun _ => ?_ | refine KI.go ?_) | ((first | refine AWi.region tabOk ?_ | refine AWi.condK fun _ _ => ?_); simp [-getElem?_pos, z0, z1, z2, hz1]) | ((first | refine AWi.ret ?_ | refine AWi.skip ?_ | refine AWi.exit ?_); try simp only [thenP]) | (with_reducible refine BB.go ?_; simp only [blockP, thenP, reduceIte]))
  refine AWi.loopK (fun i n1 t => Keeps n0 n m n1 t.mem ∧ I i t.mem ∧ t.slots 0 = Y ∧ t.slots 1 = .ptr k1 0 0 ∧ t.slots 2 = .ptr k0 0 0 ∧ t.slots 7 = .d (runsD l) ∧ t.slots 8 = .d (iD l.length) ∧ t.slots 9 = .d (iD (i : Nat)) ∧ i ≤ l.length) (fun i => l.length - i) 0 ?_ ?_
  · exact ⟨Keeps.more (by omega), h0, by simp, by simp, by simp, by simp, by simp, by simp, by omega⟩
  rintro i n1 t ⟨hkp, hi, t0, t1, t2, t7, t8, t9, hil⟩ kk
  have w1 : IntKind.i64.wrap ((i : Int) + 1) = (i : Int) + 1 := wrap64_in (by omega)
  obtain ⟨hw, ⟨za, ha⟩, ⟨zb, hb⟩⟩ := hk _ _ hi
  have hn1 : n0 ≤ n1 := Nat.le_trans hn hkp.1
  by_cases hlt : i < l.length
  · have hii : (i : Int) < l.length := by omega
    obtain ⟨⟨x, p⟩, hx⟩ : ∃ r, l[i]? = some r := ⟨_, List.getElem?_eq_getElem hlt⟩
    have hget : ((List.range l.length).map (lastV s l))[i]? = some [.agg [.d (iD x), .d (iD p)], .d (iD (endR s l i))] := by
      rw [List.getElem?_map, List.getElem?_range hlt]
      simp [lastV, List.getD_eq_getElem?_getD, hx]
    have o0 : ¬ k0 = n1 + 1 + 1 + 1 + 1 := by omega
    have o1 : ¬ k1 = n1 + 1 + 1 + 1 + 1 := by omega
    have o2 : ¬ w = n1 + 1 + 1 + 1 + 1 := by omega
    have b1 : ((i : Int) + 1).toNat = i + 1 := by omega
    have b2 : (0 : Int) ≤ (i : Int) + 1 := by omega
    by_cases hl1 : i + 1 < l.length
    · have hl1i : (i : Int) + 1 < l.length := by omega
      obtain ⟨⟨y, q⟩, hy1⟩ : ∃ r, l[i + 1]? = some r := ⟨_, List.getElem?_eq_getElem hl1⟩
      have hyb := hin (i + 1) y q hy1
      have he : endR s l i = y + 1 := by rw [endR, hy1]
      have w2 : IntKind.i64.wrap (y + 1) = y + 1 := wrap64_in (by omega)
      rw [he] at hget
      repeat (first | (with_reducible first | refine AWi.seqK fun _ => ?_ | refine AWi.blockK fun _ => ?_ | refine KI.go ?_) | ((first | refine AWi.region tabOk ?_ | refine AWi.condK fun _ _ => ?_); simp [-getElem?_pos, z0, z1, z2, t0, t1, t2, t7, t8, t9, hii, hlt, hx, ha, hb, hw, w1, w2, o0, o1, o2, b1, b2, hl1, hl1i, hy1]) | ((first | refine AWi.ret ?_ | refine AWi.skip ?_ | refine AWi.exit ?_); try simp only [thenP]) | (with_reducible refine BB.go ?_; simp only [blockP, thenP, reduceIte]))
      refine ExecI.callY (Y := Y) (xs := [.agg [.d (iD x), .d (iD p)], .d (iD (y + 1))]) (hy i _ _ _ hget (by omega) (hI i _ _ (fun j hj => by (try dsimp only); repeat (first | rw [setMem_lt (by omega)] | rw [putN_lt (by omega)])) hi)) rfl (by simp [calleeV, evList]) ?_
      rintro y n' m' ⟨hk2, ⟨rfl, h⟩ | ⟨rfl, h⟩⟩
      · simp [-getElem?_pos, z0, z1, z2]
        repeat (first | (with_reducible first | refine AWi.seqK fun _ => ?_ | refine AWi.blockK fun _ => ?_ | refine KI.go ?_) | ((first | refine AWi.region tabOk ?_ | refine AWi.condK fun _ _ => ?_); simp [-getElem?_pos, z0, z1, z2, t9, w1]) | ((first | refine AWi.ret ?_ | refine AWi.skip ?_ | refine AWi.exit ?_); try simp only [thenP]) | (with_reducible refine BB.go ?_; simp only [blockP, thenP, reduceIte]))
        exact LI.go (i + 1) ⟨(hkp.trans ⟨by omega, fun j h1 h2 => by (try dsimp only); repeat (first | rw [setMem_lt (by omega)] | rw [putN_lt (by omega)])⟩).trans (hk2.trans (Keeps.more (by omega))), h, by simp [t0], by simp [t1], by simp [t2], by simp [t7], by simp [t8], by simp [iD], hlt⟩ (by omega)
      · simp [-getElem?_pos, z0, z1, z2]
        repeat (first | (with_reducible first | refine AWi.seqK fun _ => ?_ | refine AWi.blockK fun _ => ?_ | refine KI.go ?_) | ((first | refine AWi.region tabOk ?_ | refine AWi.condK fun _ _ => ?_); simp [-getElem?_pos, z0, z1, z2, z0]) | ((first | refine AWi.ret ?_ | refine AWi.skip ?_ | refine AWi.exit ?_); try simp only [thenP]) | (with_reducible refine BB.go ?_; simp only [blockP, thenP, reduceIte]))
        exact RI.ret rfl ⟨(hkp.trans ⟨by omega, fun j h1 h2 => by (try dsimp only); repeat (first | rw [setMem_lt (by omega)] | rw [putN_lt (by omega)])⟩).trans (hk2.trans (Keeps.more (by omega))), .inr h⟩
    · have hl1i : ¬ (i : Int) + 1 < l.length := by omega
      have he : endR s l i = s.short := by rw [endR, List.getElem?_eq_none (by omega)]
      rw [he] at hget
      repeat (first | (with_reducible first | refine AWi.seqK fun _ => ?_ | refine AWi.blockK fun _ => ?_ | refine KI.go ?_) | ((first | refine AWi.region tabOk ?_ | refine AWi.condK fun _ _ => ?_); simp [-getElem?_pos, z0, z1, z2, t0, t1, t2, t7, t8, t9, hii, hlt, hx, ha, hb, hw, w1, o0, o1, o2, b1, b2, hl1, hl1i]) | ((first | refine AWi.ret ?_ | refine AWi.skip ?_ | refine AWi.exit ?_); try simp only [thenP]) | (with_reducible refine BB.go ?_; simp only [blockP, thenP, reduceIte]))
      refine ExecI.callY (Y := Y) (xs := [.agg [.d (iD x), .d (iD p)], .d (iD (s.short))]) (hy i _ _ _ hget (by omega) (hI i _ _ (fun j hj => by (try dsimp only); repeat (first | rw [setMem_lt (by omega)] | rw [putN_lt (by omega)])) hi)) rfl (by simp [calleeV, evList]) ?_
      rintro y n' m' ⟨hk2, ⟨rfl, h⟩ | ⟨rfl, h⟩⟩
      · simp [-getElem?_pos, z0, z1, z2]
        repeat (first | (with_reducible first | refine AWi.seqK fun _ => ?_ | refine AWi.blockK fun _ => ?_ | refine KI.go ?_) | ((first | refine AWi.region tabOk ?_ | refine AWi.condK fun _ _ => ?_); simp [-getElem?_pos, z0, z1, z2, t9, w1]) | ((first | refine AWi.ret ?_ | refine AWi.skip ?_ | refine AWi.exit ?_); try simp only [thenP]) | (with_reducible refine BB.go ?_; simp only [blockP, thenP, reduceIte]))
        exact LI.go (i + 1) ⟨(hkp.trans ⟨by omega, fun j h1 h2 => by (try dsimp only); repeat (first | rw [setMem_lt (by omega)] | rw [putN_lt (by omega)])⟩).trans (hk2.trans (Keeps.more (by omega))), h, by simp [t0], by simp [t1], by simp [t2], by simp [t7], by simp [t8], by simp [iD], hlt⟩ (by omega)
      · simp [-getElem?_pos, z0, z1, z2]
        repeat (first | (with_reducible first | refine AWi.seqK fun _ => ?_ | refine AWi.blockK fun _ => ?_ | refine KI.go ?_) | ((first | refine AWi.region tabOk ?_ | refine AWi.condK fun _ _ => ?_); simp [-getElem?_pos, z0, z1, z2, z0]) | ((first | refine AWi.ret ?_ | refine AWi.skip ?_ | refine AWi.exit ?_); try simp only [thenP]) | (with_reducible refine BB.go ?_; simp only [blockP, thenP, reduceIte]))
        exact RI.ret rfl ⟨(hkp.trans ⟨by omega, fun j h1 h2 => by (try dsimp only); repeat (first | rw [setMem_lt (by omega)] | rw [putN_lt (by omega)])⟩).trans (hk2.trans (Keeps.more (by omega))), .inr h⟩
  · obtain rfl : i = l.length := by omega
    repeat (first | (with_reducible first | refine AWi.seqK fun _ => ?_ | refine AWi.blockK fun _ => ?_ | refine KI.go ?_) | ((first | refine AWi.region tabOk ?_ | refine AWi.condK fun _ _ => ?_); simp [-getElem?_pos, z0, z1, z2, t8, t9]) | ((first | refine AWi.ret ?_ | refine AWi.skip ?_ | refine AWi.exit ?_); try simp only [thenP]) | (with_reducible refine BB.go ?_; simp only [blockP, thenP, reduceIte]))
    exact RI.normal rfl ⟨hkp.trans (Keeps.more (by omega)), .inl (by rw [List.length_map, List.length_range]; exact hi)⟩
end Go.Proofs.Ytdkneonokbakjaa.Eng

noncomputable section
namespace Go.Proofs.Ytdkneonokbakjaa.Eng
open Go.RowKit
set_option maxRecDepth 100000
set_option maxHeartbeats 16000000
theorem map_fst_get {l : List (Int × Int)} {i : Nat} {x p : Int} (h : l[i]? = some (x, p)) : (l.map (·.1))[i]? = some x := by rw [List.getElem?_map, h]; rfl
theorem lenB_iff {s : RS} {l : List (Int × Int)} : lenB s (l.map (·.1)) = true ↔ (∀ (j : Nat) (x p y q : Int), l[j]? = some (y, q) → l[j + 1]? = some (x, p) → x < y) ∧ ∀ (j : Nat) (x p : Int), l[j]? = some (x, p) → s.short ≤ x ∧ x ≤ s.long := by
  rw [lenB, Bool.and_eq_true]
  constructor
  · rintro ⟨h1, h2⟩
    refine ⟨fun j x p y q hy hx => ?_, fun j x p hx => ?_⟩
    · have := all_at h1 (k := j + 1) (by rw [List.length_map]; exact (List.getElem?_eq_some_iff.1 hx).1)
      rw [decAt, if_neg (Nat.succ_ne_zero j), Nat.add_sub_cancel, map_fst_get hy, map_fst_get hx] at this
      simpa using this
    · have := List.all_eq_true.1 h2 x (List.mem_of_getElem? (map_fst_get hx))
      simpa [inZn] using this
  · rintro ⟨h1, h2⟩
    constructor
    · rw [List.all_eq_true]
      intro i hi
      rw [List.mem_range, List.length_map] at hi
      cases i with
      | zero => rfl
      | succ j =>
        obtain ⟨⟨x, p⟩, hx⟩ : ∃ r, l[j + 1]? = some r := ⟨_, List.getElem?_eq_getElem hi⟩
        obtain ⟨⟨y, q⟩, hy⟩ : ∃ r, l[j]? = some r := ⟨_, List.getElem?_eq_getElem (by omega)⟩
        rw [decAt, if_neg (Nat.succ_ne_zero j), Nat.add_sub_cancel, map_fst_get hy, map_fst_get hx]
        exact decide_eq_true (h1 j x p y q hy hx)
    · rw [fromZn, List.all_eq_true]
      intro x hx
      obtain ⟨⟨x, p⟩, hr, rfl⟩ := List.mem_map.1 hx
      obtain ⟨j, hj⟩ := List.getElem?_of_mem hr
      have := h2 j x p hj
      simp only [inZn, decide_eq_true_eq]
      omega
theorem runs_iff {s : RS} {n : Nat} {l : List (Int × Int)} {x0 p0 : Int} (h0 : l[0]? = some (x0, p0)) : (List.range l.length).all (okRun s n l) = true ↔ x0 = s.long ∧ lenB s (l.map (·.1)) = true ∧ ∀ (j : Nat) (x p : Int), l[j]? = some (x, p) → 0 ≤ p ∧ p < n := by
  rw [lenB_iff]
  constructor
  · intro h
    have hf := all_at h (List.getElem?_eq_some_iff.1 h0).1
    rw [okRun_at h0] at hf
    simp only [if_true, Bool.and_eq_true, decide_eq_true_eq] at hf
    refine ⟨hf.1.1.1, ⟨fun j x p y q hy hx => runs_dec h hy hx, fun j x p hx => ?_⟩, fun j x p hx => ?_⟩
    · have := runs_in h j x p hx; omega
    · have := runs_in h j x p hx; omega
  · rintro ⟨h1, ⟨h2, h3⟩, h4⟩
    rw [List.all_eq_true]
    intro i hi
    rw [List.mem_range] at hi
    obtain ⟨⟨x, p⟩, hx⟩ : ∃ r, l[i]? = some r := ⟨_, List.getElem?_eq_getElem hi⟩
    have e3 := h3 i x p hx
    have e4 := h4 i x p hx
    rw [okRun_at hx, decide_eq_true e3.1, decide_eq_true e4.1, decide_eq_true e4.2]
    cases i with
    | zero =>
      rw [h0] at hx
      cases hx
      simp [h1]
    | succ j =>
      obtain ⟨⟨y, q⟩, hy⟩ : ∃ r, l[j]? = some r := ⟨_, List.getElem?_eq_getElem (by omega)⟩
      rw [if_neg (Nat.succ_ne_zero j), Nat.add_sub_cancel, hy]
      simp [h2 j x p y q hy hx]
theorem bear_ok {s : RS} {ps : List Int} (ok : StoOk s ps) {P : Nat} {t x : Int} (ht : ps[P]? = some t) (h1 : s.short ≤ x) (h2 : x ≤ s.long) : bearB (allR s ps fun _ => true) P x = okAt s t x := by
  rw [bear_bet ok h1, Bool.eq_iff_iff, bearB_iff, betA_at ht]
  exact bet_iff (ok.turn ht).1 h1 h2
theorem rim_bears {s : RS} {ps : List Int} (ok : StoOk s ps) {l : List (Int × Int)} (h : (List.range l.length).all (okRun s ps.length l) = true) {i : Nat} {x p : Int} (hx : l[i]? = some (x, p)) :
    ∃ (P : Nat), p = (P : Int) ∧ P < ps.length ∧ rimOk s ps l i = (bearB (allR s ps fun _ => true) P x && bearB (allR s ps fun _ => true) P (endR s l i)) := by
  obtain ⟨q1, q2, q3, q4⟩ := runs_in h i x p hx
  obtain ⟨P, rfl⟩ := Int.eq_ofNat_of_zero_le q3
  have hP : P < ps.length := by omega
  obtain ⟨t, ht⟩ : ∃ t, ps[P]? = some t := ⟨_, List.getElem?_eq_getElem hP⟩
  have hta : turnAt ps (P : Int) = t := by rw [turnAt, Int.toNat_natCast, List.getD_eq_getElem?_getD, ht]; rfl
  obtain ⟨e1, e2⟩ := end_in ok.g h hx
  refine ⟨P, rfl, hP, ?_⟩
  rw [rimOk, hx]
  simp only [hta]
  rw [bear_ok ok ht q1 q2, bear_ok ok ht e1 (by omega)]
def rnP (s : RS) (ps : List Int) (l : List (Int × Int)) (n n' : Nat) (m' : Mem) (y : SV) : Prop := if cplE s ps l = 0 then ∃ w, n ≤ w ∧ w < n' ∧ y = .tup [.ptr w 0 0, .d (iD 0)] ∧ WhAt s ps (allR s ps fun _ => true) w m' else y = .tup [.d (.val (.pointer none)), .d (iD (cplE s ps l))]
theorem checkRuns_w (s : RS) (ps : List Int) (hl : ps.length ≤ 1000000) (l : List (Int × Int)) (hll : l.length ≤ 1000000) (n : Nat) (m : Mem) :
    CWp Try.prog 56 [.agg (sto5 s), .d (intL ps), .d (runsD l)] n m fun y n' m' => n ≤ n' ∧ rnP s ps l n n' m' y ∧ ∀ j, j < n → m' j = m j := by
  by_cases h0 : stoE s ps = 0
  · have ok := stoE_ok.1 h0
    have hg := ok.g
    have g1 := hg.s1; have g2 := hg.s2; have g3 := hg.s3
    have n2 := ok.n2
    refine cwpK tabOk Try.func56 rfl rfl (show 3 ≤ _ by decide) rfl fun _ => ?_; simp only [Try.ntmps56]
    repeat (first | (with_reducible first | refine AWi.seqK fun _ => ?_ | refine AWi.blockK fun _ => ?_ | refine KI.go ?_) | ((first | refine AWi.region tabOk ?_ | refine AWi.condK fun _ _ => ?_); simp [-getElem?_pos, z0, z1, z2, z0]) | ((first | refine AWi.ret ?_ | refine AWi.skip ?_ | refine AWi.exit ?_); try simp only [thenP]) | (with_reducible refine BB.go ?_; simp only [blockP, thenP, reduceIte]))
    refine ExecI.callC (check_w s ps hl _ _) rfl (by simp [calleeS, evList]) ?_
    rintro y n1 m1 ⟨q1, q2, q3⟩
    rw [whP, if_pos h0] at q2
    obtain ⟨w, q4, q5, rfl, hw⟩ := q2
    have r0 : m1 n = some (.box 25 (sto5 s) false) := (q3 _ (by omega)).trans (by simp)
    have r1 : m1 (n + 1) = some (.box 76 [.d (.val (.pointer none))] false) := (q3 _ (by omega)).trans (by simp)
    have r2 : m1 (n + 1 + 1) = some (.box 29 [.d (iD 0)] false) := (q3 _ (by omega)).trans (by simp)
    have hlow : ∀ j, j < n → m1 j = m j := fun j hj => (q3 j (by omega)).trans (by (try dsimp only); repeat (first | rw [setMem_lt (by omega)] | rw [putN_lt (by omega)]))
    simp
    have o0 : ¬ n = n1 := by omega
    have o1 : ¬ n = n1 + 1 := by omega
    have o2 : ¬ n = n1 + 2 := by omega
    have o3 : ¬ n = n1 + 3 := by omega
    have o4 : ¬ n = n1 + 1 + 1 + 1 := by omega
    by_cases b1 : l.length < 1
    · have hE : cplE s ps l = 6 := by rw [cplE, if_pos h0, if_pos (.inl b1)]
      have b0 : l = [] := List.length_eq_zero_iff.1 (by omega)
      subst b0
      repeat (first | (with_reducible first | refine AWi.seqK fun _ => ?_ | refine AWi.blockK fun _ => ?_ | refine KI.go ?_) | ((first | refine AWi.region tabOk ?_ | refine AWi.condK fun _ _ => ?_); simp [-getElem?_pos, z0, z1, z2, r0, r1, r2, runRows, o0, o1, o2, o3]) | ((first | refine AWi.ret ?_ | refine AWi.skip ?_ | refine AWi.exit ?_); try simp only [thenP]) | (with_reducible refine BB.go ?_; simp only [blockP, thenP, reduceIte]))
      refine RI.ret (xs := [.d (.val (.pointer none)), .d (iD 6)]) (by simp [Try.results56, resSlots, resSlot, r1, r2]) ?_
      exact ⟨by omega, by rw [rnP, if_neg (by rw [hE]; decide), hE]; rfl, fun j hj => Eq.trans (by (try dsimp only); repeat (first | rw [setMem_lt (by omega)] | rw [putN_lt (by omega)])) (hlow j hj)⟩
    have b1i : ¬ (l.length : Int) < 1 := by omega
    have b0 : ¬ l = [] := fun h => by subst h; simp at b1
    by_cases b2 : 20 < l.length
    · have hE : cplE s ps l = 6 := by rw [cplE, if_pos h0, if_pos (.inr b2)]
      have b2i : (20 : Int) < l.length := by omega
      repeat (first | (with_reducible first | refine AWi.seqK fun _ => ?_ | refine AWi.blockK fun _ => ?_ | refine KI.go ?_) | ((first | refine AWi.region tabOk ?_ | refine AWi.condK fun _ _ => ?_); simp [-getElem?_pos, z0, z1, z2, r0, r1, r2, o0, o1, o2, o3, b0, b1, b1i, b2, b2i]) | ((first | refine AWi.ret ?_ | refine AWi.skip ?_ | refine AWi.exit ?_); try simp only [thenP]) | (with_reducible refine BB.go ?_; simp only [blockP, thenP, reduceIte]))
      refine RI.ret (xs := [.d (.val (.pointer none)), .d (iD 6)]) (by simp [Try.results56, resSlots, resSlot, r1, r2]) ?_
      exact ⟨by omega, by rw [rnP, if_neg (by rw [hE]; decide), hE]; rfl, fun j hj => Eq.trans (by (try dsimp only); repeat (first | rw [setMem_lt (by omega)] | rw [putN_lt (by omega)])) (hlow j hj)⟩
    have b2i : ¬ (20 : Int) < l.length := by omega
    have hpos : 0 < l.length := by omega
    have hposi : (0 : Int) < l.length := by omega
    obtain ⟨⟨x0, p0⟩, hx0⟩ : ∃ r, l[0]? = some r := ⟨_, List.getElem?_eq_getElem hpos⟩
    have hE : cplE s ps l = if (List.range l.length).all (okRun s ps.length l) = true then (if (List.range l.length).all (rimOk s ps l) = true then 0 else 19) else 3 := by rw [cplE, if_pos h0, if_neg (by omega)]
    have hrun := runs_iff (s := s) (n := ps.length) hx0
    repeat (first | (with_reducible first | refine AWi.seqK fun _ => ?_ | refine AWi.blockK fun _ => ?_ | refine KI.go ?_) | ((first | refine AWi.region tabOk ?_ | refine AWi.condK fun _ _ => ?_); simp [-getElem?_pos, z0, z1, z2, r0, r1, r2, o0, o1, o2, o3, b0, b1, b1i, b2, b2i]) | ((first | refine AWi.ret ?_ | refine AWi.skip ?_ | refine AWi.exit ?_); try simp only [thenP]) | (with_reducible refine BB.go ?_; simp only [blockP, thenP, reduceIte]))
    refine AWi.drawsV mixedR (by kernel_rfl) ?_
    have a1 : n < n1 + 1 + 1 + 1 + 1 + 1 + 1 + 1 + 1 + 1 + 1 + 1 + 1 + 1 + 1 + 1 + 1 + 1 + 1 := by omega
    by_cases c1 : x0 = s.long
    · repeat (with_reducible refine ExecV.auto tabOk ?_; simp [-getElem?_pos, z0, z1, z2, kindV, isPure, r0, o0, o1, o2, o3, hpos, hposi, hx0, c1]; try (refine And.intro (OkV_old (by simp; try omega) (by omega) (by simp [AllAcc])) ?_))
      show ExecV _ _ _ _ _ _ _ _ _ _
      refine ExecV.ro (x := .d (intL (l.map (·.1)))) (svs := [.d (runsD l)]) [] (RCall.ofA (froms_x l (by omega)) rfl _) rfl (by simp [-getElem?_pos, z0, z1, z2]) (by simp [calleeS, evList]) (OkV_old (by simp) (by omega) (by simp [AllAcc])) ?_
      repeat (with_reducible refine ExecV.auto tabOk ?_; simp [-getElem?_pos, z0, z1, z2, kindV, isPure, r0, o0, o1, o2, o3, hpos, hposi, hx0, c1]; try (refine And.intro (OkV_old (by simp; try omega) (by omega) (by simp [AllAcc])) ?_))
      show ExecV _ _ _ _ _ _ _ _ _ _
      refine ExecV.ro (x := .d (bD (lenB s (l.map (·.1))))) (svs := [.agg (sto5 s), .d (intL (l.map (·.1)))]) [] (RCall.ofA (areLengths_c s (l.map (·.1)) (by rw [List.length_map]; omega)) rfl _) rfl (by simp [-getElem?_pos, z0, z1, z2]) (by simp [calleeS, evList]) (OkV_old (by simp) (by omega) (by simp [AllAcc])) ?_
      cases hL : lenB s (l.map (·.1)) with
      | false =>
        have hE3 : cplE s ps l = 3 := by rw [hE, if_neg fun h => by have := (hrun.1 h).2.1; rw [hL] at this; cases this]
        repeat (with_reducible refine ExecV.auto tabOk ?_; simp [-getElem?_pos, z0, z1, z2, kindV, isPure, r0, o0, o1, o2, o3, hpos, hposi, hx0, c1]; try (refine And.intro (OkV_old (by simp; try omega) (by omega) (by simp [AllAcc])) ?_))
        unfold ExecV
        simp only [thenP]
        repeat (first | (with_reducible first | refine AWi.seqK fun _ => ?_ | refine AWi.blockK fun _ => ?_ | refine KI.go ?_) | ((first | refine AWi.region tabOk ?_ | refine AWi.condK fun _ _ => ?_); simp [-getElem?_pos, z0, z1, z2, r0, r1, r2, o0, o1, o2, o3]) | ((first | refine AWi.ret ?_ | refine AWi.skip ?_ | refine AWi.exit ?_); try simp only [thenP]) | (with_reducible refine BB.go ?_; simp only [blockP, thenP, reduceIte]))
        refine RI.ret (xs := [.d (.val (.pointer none)), .d (iD 3)]) (by simp [Try.results56, resSlots, resSlot, r1, r2]) ?_
        exact ⟨by omega, by rw [rnP, if_neg (by rw [hE3]; decide), hE3]; rfl, fun j hj => Eq.trans (by (try dsimp only); repeat (first | rw [setMem_lt (by omega)] | rw [putN_lt (by omega)])) (hlow j hj)⟩
      | true =>
        repeat (with_reducible refine ExecV.auto tabOk ?_; simp [-getElem?_pos, z0, z1, z2, kindV, isPure, r0, o0, o1, o2, o3, hpos, hposi, hx0, c1]; try (refine And.intro (OkV_old (by simp; try omega) (by omega) (by simp [AllAcc])) ?_))
        unfold ExecV
        simp only [thenP]
        repeat (first | (with_reducible first | refine AWi.seqK fun _ => ?_ | refine AWi.blockK fun _ => ?_ | refine KI.go ?_) | ((first | refine AWi.region tabOk ?_ | refine AWi.condK fun _ _ => ?_); simp [-getElem?_pos, z0, z1, z2, r0, r1, r2, o0, o1, o2, o3]) | ((first | refine AWi.ret ?_ | refine AWi.skip ?_ | refine AWi.exit ?_); try simp only [thenP]) | (with_reducible refine BB.go ?_; simp only [blockP, thenP, reduceIte]))
        rw [hL] at hrun
        have hlow2 : ∀ j, j < n1 → (setMem (setMem m1 (n1 + 1 + 1 + 1) (some (Blk.box 76 [SV.d (Dat.val (Value.pointer none))] false))) (n1 + 1 + 1 + 1) (some (Blk.box 76 [SV.ptr w 0 0] false))) j = m1 j := fun j hj => by (try dsimp only); repeat (first | rw [setMem_lt (by omega)] | rw [putN_lt (by omega)])
        have hc8 : (setMem (setMem m1 (n1 + 1 + 1 + 1) (some (Blk.box 76 [SV.d (Dat.val (Value.pointer none))] false))) (n1 + 1 + 1 + 1) (some (Blk.box 76 [SV.ptr w 0 0] false))) (n1 + 1 + 1 + 1) = some (Blk.box 76 [SV.ptr w 0 0] false) := if_pos rfl
        generalize (setMem (setMem m1 (n1 + 1 + 1 + 1) (some (Blk.box 76 [SV.d (Dat.val (Value.pointer none))] false))) (n1 + 1 + 1 + 1) (some (Blk.box 76 [SV.ptr w 0 0] false))) = m2 at *
        refine AWi.loopK (ι := { i : Nat // i ≤ l.length ∧ ∀ (j : Nat) (x p : Int), j < i → l[j]? = some (x, p) → 0 ≤ p ∧ p < ps.length }) (fun i n3 t => n1 + 1 + 1 + 1 + 1 ≤ n3 ∧ t.slots 2 = .d (runsD l) ∧ t.slots 3 = .ptr n 0 0 ∧ t.slots 6 = .ptr (n + 1) 0 0 ∧ t.slots 7 = .ptr (n + 1 + 1) 0 0 ∧ t.slots 8 = .ptr (n1 + 1 + 1 + 1) 0 0 ∧ t.slots 45 = .d (runsD l) ∧ t.slots 46 = .d (iD l.length) ∧ t.slots 47 = .d (iD i.1) ∧ ∀ j, j < n1 + 1 + 1 + 1 + 1 → t.mem j = m2 j) (fun i => l.length - i.1) ⟨0, Nat.zero_le _, fun j x p hj => by omega⟩ ?_ ?_
        · exact ⟨by omega, by simp, by simp, by simp, by simp, by simp, by simp, by simp, by simp, fun j hj => rfl⟩
        rintro ⟨i, hi, hip⟩ n3 t ⟨k0, t2, t3, t6, t7, t8, t45, t46, t47, tl⟩ kk
        simp only at t47
        have w1 : IntKind.i64.wrap ((i : Int) + 1) = (i : Int) + 1 := wrap64_in (by omega)
        have u8 := (tl _ (by omega)).trans hc8
        have u1 := (tl (n + 1) (by omega)).trans ((hlow2 _ (by omega)).trans r1)
        have u2 := (tl (n + 1 + 1) (by omega)).trans ((hlow2 _ (by omega)).trans r2)
        have uw : WhAt s ps (allR s ps fun _ => true) w t.mem := (tl w (by omega)).trans ((hlow2 w (by omega)).trans hw)
        by_cases hlt : i < l.length
        · have hii : (i : Int) < l.length := by omega
          obtain ⟨⟨x, p⟩, hx⟩ : ∃ r, l[i]? = some r := ⟨_, List.getElem?_eq_getElem hlt⟩
          have o6 : ¬ n1 = n3 := by omega
          have o7 : ¬ n = n3 := by omega
          have o8 : ¬ n = n3 + 1 := by omega
          have o9 : ¬ n = n3 + 2 := by omega
          repeat (first | (with_reducible first | refine AWi.seqK fun _ => ?_ | refine AWi.blockK fun _ => ?_ | refine KI.go ?_) | ((first | refine AWi.region tabOk ?_ | refine AWi.condK fun _ _ => ?_); simp [-getElem?_pos, z0, z1, z2, t2, t3, t6, t7, t8, t45, t46, t47, hii, hlt, hx, u8, o6]) | ((first | refine AWi.ret ?_ | refine AWi.skip ?_ | refine AWi.exit ?_); try simp only [thenP]) | (with_reducible refine BB.go ?_; simp only [blockP, thenP, reduceIte]))
          refine ExecI.callC (isPulley_w ((uw.set (by omega)).set (by omega)) p _) rfl (by simp [calleeS, evList]) ?_
          rintro y n4 m4 ⟨v1, v2, rfl, rfl⟩
          by_cases hp : 0 ≤ p ∧ p < ps.length
          · rw [decide_eq_true hp]
            simp [-getElem?_pos, z0, z1, z2]
            repeat (first | (with_reducible first | refine AWi.seqK fun _ => ?_ | refine AWi.blockK fun _ => ?_ | refine KI.go ?_) | ((first | refine AWi.region tabOk ?_ | refine AWi.condK fun _ _ => ?_); simp [-getElem?_pos, z0, z1, z2, t47, w1]) | ((first | refine AWi.ret ?_ | refine AWi.skip ?_ | refine AWi.exit ?_); try simp only [thenP]) | (with_reducible refine BB.go ?_; simp only [blockP, thenP, reduceIte]))
            refine LI.go ⟨i + 1, hlt, fun j x' p' hj hx' => ?_⟩ ⟨by omega, by simp [t2], by simp [t3], by simp [t6], by simp [t7], by simp [t8], by simp [t45], by simp [t46], by simp [iD], fun j hj => Eq.trans (by (try dsimp only); repeat (first | rw [setMem_lt (by omega)] | rw [putN_lt (by omega)])) (tl j hj)⟩ (by simp; omega)
            by_cases hji : j < i
            · exact hip j x' p' hji hx'
            · obtain rfl : j = i := by omega
              rw [hx] at hx'
              cases hx'
              exact hp
          · have hE3 : cplE s ps l = 3 := by rw [hE, if_neg fun h => hp ((hrun.1 h).2.2 i x p hx)]
            rw [decide_eq_false hp]
            simp [-getElem?_pos, z0, z1, z2]
            repeat (first | (with_reducible first | refine AWi.seqK fun _ => ?_ | refine AWi.blockK fun _ => ?_ | refine KI.go ?_) | ((first | refine AWi.region tabOk ?_ | refine AWi.condK fun _ _ => ?_); simp [-getElem?_pos, z0, z1, z2, t6, t7, u1, u2, o6, o7, o8, o9]) | ((first | refine AWi.ret ?_ | refine AWi.skip ?_ | refine AWi.exit ?_); try simp only [thenP]) | (with_reducible refine BB.go ?_; simp only [blockP, thenP, reduceIte]))
            refine RI.ret (xs := [.d (.val (.pointer none)), .d (iD 3)]) (by simp [Try.results56, resSlots, resSlot, t6, t7, u1, u2]) ?_
            exact ⟨by omega, by rw [rnP, if_neg (by rw [hE3]; decide), hE3]; rfl, fun j hj => Eq.trans (by (try dsimp only); repeat (first | rw [setMem_lt (by omega)] | rw [putN_lt (by omega)])) ((tl j (by omega)).trans ((hlow2 j (by omega)).trans (hlow j hj)))⟩
        · obtain rfl : i = l.length := by omega
          have hall : (List.range l.length).all (okRun s ps.length l) = true := hrun.2 ⟨c1, rfl, fun j x p hx => hip j x p (List.getElem?_eq_some_iff.1 hx).1 hx⟩
          rw [if_pos hall] at hE
          repeat (first | (with_reducible first | refine AWi.seqK fun _ => ?_ | refine AWi.blockK fun _ => ?_ | refine KI.go ?_) | ((first | refine AWi.region tabOk ?_ | refine AWi.condK fun _ _ => ?_); simp [-getElem?_pos, z0, z1, z2, t2, t8, t46, t47, u8]) | ((first | refine AWi.ret ?_ | refine AWi.skip ?_ | refine AWi.exit ?_); try simp only [thenP]) | (with_reducible refine BB.go ?_; simp only [blockP, thenP, reduceIte]))
          refine ExecI.callC (lasts_w w l _ _) rfl (by simp [calleeS, evList]) ?_
          rintro y n4 m4 ⟨rfl, rfl, rfl⟩
          simp
          repeat (first | (with_reducible first | refine AWi.seqK fun _ => ?_ | refine AWi.blockK fun _ => ?_ | refine KI.go ?_) | ((first | refine AWi.region tabOk ?_ | refine AWi.condK fun _ _ => ?_); simp [-getElem?_pos, z0, z1, z2, z0]) | ((first | refine AWi.ret ?_ | refine AWi.skip ?_ | refine AWi.exit ?_); try simp only [thenP]) | (with_reducible refine BB.go ?_; simp only [blockP, thenP, reduceIte]))
          refine AWi.iterK (lasts1_w (s := s) (ps := ps) (A := allR s ps fun _ => true) hg w (n3 + 1 + 1 + 1) (n3 + 1 + 1 + 1 + 1) l (by omega) (fun j x p hx => by have := runs_in hall j x p hx; omega)) (f := 76) (us := []) (vs := [.ptr (n3 + 1 + 1 + 1 + 1) 0 0, .ptr (n3 + 1 + 1 + 1) 0 0]) (by simp [-getElem?_pos, z0, z1, z2]) (fun _ => rfl) (fun _ h => by cases h) rfl (by intro z hz; obtain ⟨x, _, rfl⟩ := List.mem_map.1 hz; rfl)
            (fun i mm => (∀ j, j < n3 → mm j = t.mem j) ∧ mm (n3 + 1 + 1 + 1) = some (.box 76 [.ptr w 0 0] false) ∧ mm (n3 + 1 + 1 + 1 + 1) = some (.box 36 [.d (runsD l)] false) ∧ (List.range i).all (rimOk s ps l) = true)
            (fun c mm => c = .ret ∧ (∀ j, j < n → mm j = m j) ∧ mm (n + 1) = some (.box 76 [.d (.val (.pointer none))] false) ∧ mm (n + 1 + 1) = some (.box 29 [.d (iD 19)] false) ∧ cplE s ps l = 19) ?_ ?_ (fun i mm h => ⟨(h.1 w (by omega)).trans uw, ⟨_, h.2.1⟩, ⟨_, h.2.2.1⟩⟩) ?_ ?_ ?_ ?_
          · rintro i mm mm' h ⟨h1, h2, h3, h4⟩
            exact ⟨fun j hj => (h j (by omega)).trans (h1 j hj), (h _ (by omega)).trans h2, (h _ (by omega)).trans h3, h4⟩
          · rintro c mm mm' h ⟨h1, h2, h3, h4, h5⟩
            exact ⟨h1, fun j hj => (h j (by omega)).trans (h2 j hj), (h _ (by omega)).trans h3, (h _ (by omega)).trans h4, h5⟩
          · refine ⟨fun j hj => by simp only [lastM]; (try dsimp only); repeat (first | rw [setMem_lt (by omega)] | rw [putN_lt (by omega)]), by simp, by simp, rfl⟩
          · rintro i n5 m5 z hz hn5 ⟨h1, h2, h3, h4⟩ kr
            rw [List.getElem?_map, Option.map_eq_some_iff] at hz
            obtain ⟨j, hj, rfl⟩ := hz
            obtain ⟨hil, rfl⟩ : i < l.length ∧ i = j := by
              obtain ⟨a, b⟩ := List.getElem?_eq_some_iff.1 hj
              simp at a b
              exact ⟨a, b⟩
            obtain ⟨⟨x, p⟩, hx⟩ : ∃ r, l[i]? = some r := ⟨_, List.getElem?_eq_getElem hil⟩
            obtain ⟨P, rfl, hP, hrm⟩ := rim_bears ok hall hx
            have hlv : lastV s l i = [.agg [.d (iD x), .d (iD P)], .d (iD (endR s l i))] := by simp [lastV, List.getD_eq_getElem?_getD, hx]
            rw [hlv]
            generalize endR s l i = z at *
            repeat (first | (with_reducible first | refine AWi.seqK fun _ => ?_ | refine AWi.blockK fun _ => ?_ | refine KI.go ?_) | ((first | refine AWi.region tabOk ?_ | refine AWi.condK fun _ _ => ?_); simp [-getElem?_pos, z0, z1, z2, putAll]) | ((first | refine AWi.ret ?_ | refine AWi.skip ?_ | refine AWi.exit ?_); try simp only [thenP]) | (with_reducible refine BB.go ?_; simp only [blockP, thenP, reduceIte]))
            refine RB.go (by omega) (fun j hj => by (try dsimp only); repeat (first | rw [setMem_lt (by omega)] | rw [putN_lt (by omega)])) fun rc hrc qq => ?_
            have v8 := (h1 _ (by omega)).trans u8
            have vw : WhAt s ps (allR s ps fun _ => true) w m5 := (h1 w (by omega)).trans uw
            have p1 : ¬ n1 = n3 + 5 := by omega
            have p2 : ¬ n1 + 1 + 1 + 1 = n5 := by omega
            have p3 : ¬ n5 = n3 + 1 + 1 + 1 + 1 + 1 + 1 + 1 + 1 := by omega
            have p4 : ¬ n5 = n3 + 8 := by omega
            repeat (first | (with_reducible first | refine AWi.seqK fun _ => ?_ | refine AWi.blockK fun _ => ?_ | refine KI.go ?_) | ((first | refine AWi.region tabOk ?_ | refine AWi.condK fun _ _ => ?_); simp [-getElem?_pos, z0, z1, z2, t8, v8, p1, p2, p3, p4]) | ((first | refine AWi.ret ?_ | refine AWi.skip ?_ | refine AWi.exit ?_); try simp only [thenP]) | (with_reducible refine BB.go ?_; simp only [blockP, thenP, reduceIte]))
            have hP12 : P < 12 := by omega
            refine ExecI.callC (bears_w (p := P) (((vw.set (by omega)).set (by omega)).set (by omega)) hP12 x _ (by omega)) rfl (by simp [calleeS, evList]) ?_
            rintro y n6 m6 ⟨e1, e2, rfl, e3⟩
            have x5 : m6 n5 = some (.box 59 [.d (iD x), .d (iD P)] false) := (e3 _ (by omega)).trans (by simp [p4])
            have hmid : ∀ j, j < n5 → j ≠ n3 + 1 + 1 + 1 + 1 + 1 + 1 + 1 + 1 → m6 j = m5 j := fun j j1 j2 => (e3 j (by omega)).trans ((if_neg j2).trans (by (try dsimp only); repeat (first | rw [setMem_lt (by omega)] | rw [putN_lt (by omega)])))
            have x8 := (hmid _ (by omega) (by omega)).trans v8
            have xw : WhAt s ps (allR s ps fun _ => true) w m6 := (hmid w (by omega) (by omega)).trans vw
            have x1 := (hmid (n + 1) (by omega) (by omega)).trans ((h1 _ (by omega)).trans u1)
            have x2 := (hmid (n + 1 + 1) (by omega) (by omega)).trans ((h1 _ (by omega)).trans u2)
            have xlow : ∀ j, j < n → m6 j = m j := fun j hj => (hmid j (by omega) (by omega)).trans ((h1 j (by omega)).trans ((tl j (by omega)).trans ((hlow2 j (by omega)).trans (hlow j hj))))
            have hbad : rimOk s ps l i = false → cplE s ps l = 19 := fun h => by rw [hE, all_no hil h]; rfl
            cases ha : bearB (allR s ps fun _ => true) P x with
            | false =>
              have hE19 := hbad (by rw [hrm, ha]; rfl)
              simp [-getElem?_pos, z0, z1, z2]
              repeat (first | (with_reducible first | refine AWi.seqK fun _ => ?_ | refine AWi.blockK fun _ => ?_ | refine KI.go ?_) | ((first | refine AWi.region tabOk ?_ | refine AWi.condK fun _ _ => ?_); simp [-getElem?_pos, z0, z1, z2, t6, t7, t8, x1, x2, p4]) | ((first | refine AWi.ret ?_ | refine AWi.skip ?_ | refine AWi.exit ?_); try simp only [thenP]) | (with_reducible refine BB.go ?_; simp only [blockP, thenP, reduceIte]))
              exact RE.ret (by omega) (fun j j1 j2 => Eq.trans (show setMem _ _ _ j = _ by rw [setMem, if_neg (by omega), setMem, if_neg (by omega)]) (e3 j (by omega))) ⟨rfl, fun j hj => Eq.trans (by (try dsimp only); repeat (first | rw [setMem_lt (by omega)] | rw [putN_lt (by omega)])) (xlow j hj), by simp, by simp, hE19⟩
            | true =>
              simp [-getElem?_pos, z0, z1, z2, t8, x8, x5, p4]
              repeat (first | (with_reducible first | refine AWi.seqK fun _ => ?_ | refine AWi.blockK fun _ => ?_ | refine KI.go ?_) | ((first | refine AWi.region tabOk ?_ | refine AWi.condK fun _ _ => ?_); simp [-getElem?_pos, z0, z1, z2, t8, x8, x5, p4]) | ((first | refine AWi.ret ?_ | refine AWi.skip ?_ | refine AWi.exit ?_); try simp only [thenP]) | (with_reducible refine BB.go ?_; simp only [blockP, thenP, reduceIte]))
              refine ExecI.callC (bears_w (p := P) xw hP12 z _ (by omega)) (by simp [-getElem?_pos, z0, z1, z2]) (by simp [calleeS, evList]) ?_
              rintro y n7 m7 ⟨f1, f2, rfl, f3⟩
              have hmid7 : ∀ j, j < n6 → m7 j = m6 j := fun j hj => Eq.trans (f3 j (by omega)) (by (try dsimp only); repeat (first | rw [setMem_lt (by omega)] | rw [putN_lt (by omega)]))
              cases hb : bearB (allR s ps fun _ => true) P z with
              | false =>
                have hE19 := hbad (by rw [hrm, ha, hb]; rfl)
                have y1 := (hmid7 (n + 1) (by omega)).trans x1
                have y2 := (hmid7 (n + 1 + 1) (by omega)).trans x2
                simp [-getElem?_pos, z0, z1, z2]
                repeat (first | (with_reducible first | refine AWi.seqK fun _ => ?_ | refine AWi.blockK fun _ => ?_ | refine KI.go ?_) | ((first | refine AWi.region tabOk ?_ | refine AWi.condK fun _ _ => ?_); simp [-getElem?_pos, z0, z1, z2, t6, t7, t8, y1, y2, p4]) | ((first | refine AWi.ret ?_ | refine AWi.skip ?_ | refine AWi.exit ?_); try simp only [thenP]) | (with_reducible refine BB.go ?_; simp only [blockP, thenP, reduceIte]))
                exact RE.ret (by omega) (fun j j1 j2 => Eq.trans (show setMem _ _ _ j = _ by rw [setMem, if_neg (by omega), setMem, if_neg (by omega)]) ((hmid7 j (by omega)).trans (e3 j (by omega)))) ⟨rfl, fun j hj => Eq.trans (by (try dsimp only); repeat (first | rw [setMem_lt (by omega)] | rw [putN_lt (by omega)])) ((hmid7 j (by omega)).trans (xlow j hj)), by simp, by simp, hE19⟩
              | true =>
                simp [-getElem?_pos, z0, z1, z2]
                repeat (first | (with_reducible first | refine AWi.seqK fun _ => ?_ | refine AWi.blockK fun _ => ?_ | refine KI.go ?_) | ((first | refine AWi.region tabOk ?_ | refine AWi.condK fun _ _ => ?_); simp [-getElem?_pos, z0, z1, z2, t6, t7, t8, p4]) | ((first | refine AWi.ret ?_ | refine AWi.skip ?_ | refine AWi.exit ?_); try simp only [thenP]) | (with_reducible refine BB.go ?_; simp only [blockP, thenP, reduceIte]))
                exact RE.normal (by omega) (fun j j1 j2 => (hmid7 j (by omega)).trans (e3 j (by omega))) ⟨fun j hj => (hmid7 j (by omega)).trans ((hmid j (by omega) (by omega)).trans (h1 j hj)), (hmid7 _ (by omega)).trans ((hmid _ (by omega) (by omega)).trans h2), (hmid7 _ (by omega)).trans ((hmid _ (by omega) (by omega)).trans h3), all_succ h4 (by rw [hrm, ha, hb]; rfl)⟩
          · rintro n' m' hn' ⟨h1, h2, h3, h4⟩
            simp only [thenP]
            have u8' := (h1 _ (by omega)).trans u8
            have u1' := (h1 _ (by omega)).trans u1
            have u2' := (h1 _ (by omega)).trans u2
            repeat (first | (with_reducible first | refine AWi.seqK fun _ => ?_ | refine AWi.blockK fun _ => ?_ | refine KI.go ?_) | ((first | refine AWi.region tabOk ?_ | refine AWi.condK fun _ _ => ?_); simp [-getElem?_pos, z0, z1, z2, t6, t7, t8, u8', u1', u2']) | ((first | refine AWi.ret ?_ | refine AWi.skip ?_ | refine AWi.exit ?_); try simp only [thenP]) | (with_reducible refine BB.go ?_; simp only [blockP, thenP, reduceIte]))
            have hE0 : cplE s ps l = 0 := by
              rw [hE]
              simp only [List.length_map, List.length_range] at h4
              rw [if_pos h4]
            refine RI.ret (xs := [.ptr w 0 0, .d (iD 0)]) (by simp [Try.results56, resSlots, resSlot, t6, t7, u1', u2']) ?_
            have u9 : ∀ j, j < n3 → j ≠ n + 1 → j ≠ n + 1 + 1 → setMem (setMem m' (n + 1) (some (Blk.box 76 [SV.ptr w 0 0] false))) (n + 1 + 1) (some (Blk.box 29 [SV.d (Dat.val (Value.int IntKind.i64 0))] false)) j = t.mem j := fun j j0 j1 j2 => by rw [setMem, if_neg (by omega), setMem, if_neg (by omega), h1 j j0]
            exact ⟨by omega, by rw [rnP, if_pos hE0]; exact ⟨w, by omega, by omega, rfl, (u9 w (by omega) (by omega) (by omega)).trans uw⟩, fun j hj => (u9 j (by omega) (by omega) (by omega)).trans ((tl j (by omega)).trans ((hlow2 j (by omega)).trans (hlow j hj)))⟩
          · rintro c n' m' hn' ⟨rfl, h2, h3, h4, h5⟩
            simp only [afterP, thenP]
            repeat (first | (with_reducible first | refine AWi.seqK fun _ => ?_ | refine AWi.blockK fun _ => ?_ | refine KI.go ?_) | ((first | refine AWi.region tabOk ?_ | refine AWi.condK fun _ _ => ?_); simp [-getElem?_pos, z0, z1, z2, t6, t7]) | ((first | refine AWi.ret ?_ | refine AWi.skip ?_ | refine AWi.exit ?_); try simp only [thenP]) | (with_reducible refine BB.go ?_; simp only [blockP, thenP, reduceIte]))
            refine RI.ret (xs := [.d (.val (.pointer none)), .d (iD 19)]) (by simp [Try.results56, resSlots, resSlot, t6, t7, h3, h4]) ?_
            exact ⟨by omega, by rw [rnP, if_neg (by rw [h5]; decide), h5]; rfl, h2⟩
    · have hE3 : cplE s ps l = 3 := by rw [hE, if_neg fun h => c1 (hrun.1 h).1]
      repeat (with_reducible refine ExecV.auto tabOk ?_; simp [-getElem?_pos, z0, z1, z2, kindV, isPure, r0, o0, o1, o2, o3, hpos, hposi, hx0, c1]; try (refine And.intro (OkV_old (by simp; try omega) (by omega) (by simp [AllAcc])) ?_))
      unfold ExecV
      simp only [thenP]
      repeat (first | (with_reducible first | refine AWi.seqK fun _ => ?_ | refine AWi.blockK fun _ => ?_ | refine KI.go ?_) | ((first | refine AWi.region tabOk ?_ | refine AWi.condK fun _ _ => ?_); simp [-getElem?_pos, z0, z1, z2, r0, r1, r2, o0, o1, o2, o3]) | ((first | refine AWi.ret ?_ | refine AWi.skip ?_ | refine AWi.exit ?_); try simp only [thenP]) | (with_reducible refine BB.go ?_; simp only [blockP, thenP, reduceIte]))
      refine RI.ret (xs := [.d (.val (.pointer none)), .d (iD 3)]) (by simp [Try.results56, resSlots, resSlot, r1, r2]) ?_
      exact ⟨by omega, by rw [rnP, if_neg (by rw [hE3]; decide), hE3]; rfl, fun j hj => Eq.trans (by (try dsimp only); repeat (first | rw [setMem_lt (by omega)] | rw [putN_lt (by omega)])) (hlow j hj)⟩
  · have hE : cplE s ps l = stoE s ps := by rw [cplE, if_neg h0]
    refine cwpK tabOk Try.func56 rfl rfl (show 3 ≤ _ by decide) rfl fun _ => ?_; simp only [Try.ntmps56]
    repeat (first | (with_reducible first | refine AWi.seqK fun _ => ?_ | refine AWi.blockK fun _ => ?_ | refine KI.go ?_) | ((first | refine AWi.region tabOk ?_ | refine AWi.condK fun _ _ => ?_); simp [-getElem?_pos, z0, z1, z2, z0]) | ((first | refine AWi.ret ?_ | refine AWi.skip ?_ | refine AWi.exit ?_); try simp only [thenP]) | (with_reducible refine BB.go ?_; simp only [blockP, thenP, reduceIte]))
    refine ExecI.callC (check_w s ps hl _ _) rfl (by simp [calleeS, evList]) ?_
    rintro y n1 m1 ⟨q1, q2, q3⟩
    rw [whP, if_neg h0] at q2
    subst q2
    have r1 : m1 (n + 1) = some (.box 76 [.d (.val (.pointer none))] false) := (q3 _ (by omega)).trans (by first | rfl | simp)
    have r2 : m1 (n + 1 + 1) = some (.box 29 [.d (iD 0)] false) := (q3 _ (by omega)).trans (by first | rfl | simp)
    have hlow : ∀ j, j < n → m1 j = m j := fun j hj => (q3 j (by omega)).trans (by (try dsimp only); repeat (first | rw [setMem_lt (by omega)] | rw [putN_lt (by omega)]))
    have o0 : ¬ n = n1 := by omega
    have o1 : ¬ n = n1 + 1 := by omega
    have o2 : ¬ n = n1 + 2 := by omega
    have o3 : ¬ n = n1 + 3 := by omega
    simp
    repeat (first | (with_reducible first | refine AWi.seqK fun _ => ?_ | refine AWi.blockK fun _ => ?_ | refine KI.go ?_) | ((first | refine AWi.region tabOk ?_ | refine AWi.condK fun _ _ => ?_); simp [-getElem?_pos, z0, z1, z2, h0, r1, r2, o0, o1, o2, o3]) | ((first | refine AWi.ret ?_ | refine AWi.skip ?_ | refine AWi.exit ?_); try simp only [thenP]) | (with_reducible refine BB.go ?_; simp only [blockP, thenP, reduceIte]))
    refine RI.ret (xs := [.d (.val (.pointer none)), .d (iD (stoE s ps))]) (by simp [Try.results56, resSlots, resSlot, r1, r2]) ?_
    exact ⟨by omega, by rw [rnP, if_neg (by rw [hE]; exact h0), hE]; rfl, fun j hj => Eq.trans (by (try dsimp only); repeat (first | rw [setMem_lt (by omega)] | rw [putN_lt (by omega)])) (hlow j hj)⟩
end Go.Proofs.Ytdkneonokbakjaa.Eng

noncomputable section
namespace Go.Proofs.Ytdkneonokbakjaa.Eng
open Go.RowKit
set_option maxRecDepth 100000
set_option maxHeartbeats 16000000
theorem checkPlan_x (s : RS) (ps : List Int) (hl : ps.length ≤ 1000000) (l : List (Int × Int)) (hll : l.length ≤ 1000000) (n : Nat) (m : Mem) :
    CWp Try.prog 26 [.d (stoD s), .d (intL ps), .d (runsD l)] n m fun y n' m' => toD4 y = some (iD (cplE s ps l)) ∧ ∀ j, j < n → m' j = m j := by
  by_cases h0 : cplE s ps l = 0
  · refine cwpK tabOk Try.func26 rfl rfl (show 3 ≤ _ by decide) rfl fun _ => ?_; simp only [Try.ntmps26]
    repeat (first | (with_reducible first | refine AWi.seqK fun _ => ?_ | refine AWi.blockK fun _ => ?_ | refine KI.go ?_) | ((first | refine AWi.region tabOk ?_ | refine AWi.condK fun _ _ => ?_); simp [-getElem?_pos, z0, z1, z2, z0]) | ((first | refine AWi.ret ?_ | refine AWi.skip ?_ | refine AWi.exit ?_); try simp only [thenP]) | (with_reducible refine BB.go ?_; simp only [blockP, thenP, reduceIte]))
    refine ExecI.callC (checkRuns_w s ps hl l hll _ _) rfl (by simp [calleeS, evList]) ?_
    rintro y n1 m1 ⟨q1, q2, q3⟩
    rw [rnP, if_pos h0] at q2
    obtain ⟨w, q4, q5, rfl, hw⟩ := q2
    have hlow : ∀ j, j < n → m1 j = m j := fun j hj => (q3 j (by omega)).trans (by (try dsimp only); repeat (first | rw [setMem_lt (by omega)] | rw [putN_lt (by omega)]))
    simp
    repeat (first | (with_reducible first | refine AWi.seqK fun _ => ?_ | refine AWi.blockK fun _ => ?_ | refine KI.go ?_) | ((first | refine AWi.region tabOk ?_ | refine AWi.condK fun _ _ => ?_); simp [-getElem?_pos, z0, z1, z2, z0]) | ((first | refine AWi.ret ?_ | refine AWi.skip ?_ | refine AWi.exit ?_); try simp only [thenP]) | (with_reducible refine BB.go ?_; simp only [blockP, thenP, reduceIte]))
    refine RI.ret (xs := [.d (iD 0)]) (by simp [Try.results26, resSlots, resSlot, z0]) ?_
    exact ⟨by rw [h0]; rfl, hlow⟩
  · refine cwpK tabOk Try.func26 rfl rfl (show 3 ≤ _ by decide) rfl fun _ => ?_; simp only [Try.ntmps26]
    repeat (first | (with_reducible first | refine AWi.seqK fun _ => ?_ | refine AWi.blockK fun _ => ?_ | refine KI.go ?_) | ((first | refine AWi.region tabOk ?_ | refine AWi.condK fun _ _ => ?_); simp [-getElem?_pos, z0, z1, z2, z0]) | ((first | refine AWi.ret ?_ | refine AWi.skip ?_ | refine AWi.exit ?_); try simp only [thenP]) | (with_reducible refine BB.go ?_; simp only [blockP, thenP, reduceIte]))
    refine ExecI.callC (checkRuns_w s ps hl l hll _ _) rfl (by simp [calleeS, evList]) ?_
    rintro y n1 m1 ⟨q1, q2, q3⟩
    rw [rnP, if_neg h0] at q2
    subst q2
    have hlow : ∀ j, j < n → m1 j = m j := fun j hj => (q3 j (by omega)).trans (by (try dsimp only); repeat (first | rw [setMem_lt (by omega)] | rw [putN_lt (by omega)]))
    simp
    repeat (first | (with_reducible first | refine AWi.seqK fun _ => ?_ | refine AWi.blockK fun _ => ?_ | refine KI.go ?_) | ((first | refine AWi.region tabOk ?_ | refine AWi.condK fun _ _ => ?_); simp [-getElem?_pos, z0, z1, z2, z0]) | ((first | refine AWi.ret ?_ | refine AWi.skip ?_ | refine AWi.exit ?_); try simp only [thenP]) | (with_reducible refine BB.go ?_; simp only [blockP, thenP, reduceIte]))
    refine RI.ret (xs := [.d (iD (cplE s ps l))]) (by simp [Try.results26, resSlots, resSlot, z0]) ?_
    exact ⟨rfl, hlow⟩
theorem checkPlan_c (s : RS) (ps : List Int) (hl : ps.length ≤ 1000000) (l : List (Int × Int)) (hll : l.length ≤ 1000000) : ACall Try.prog 26 [stoD s, intL ps, runsD l] (iD (cplE s ps l)) :=
  ACall.ofR (RCall.of4 (n0 := 0) fun n _ => (checkPlan_x s ps hl l hll n _).mono fun _ _ _ h => h)
theorem speeds_x (s : RS) (ps : List Int) (hl : ps.length ≤ 1000000) (l : List (Int × Int)) (hll : l.length ≤ 1000000) (n : Nat) (m : Mem) :
    CWp Try.prog 24 [.d (stoD s), .d (intL ps), .d (runsD l)] n m fun y n' m' => toD4 y = some (.tup [rngD (speV s ps l), iD (cplE s ps l)]) ∧ ∀ j, j < n → m' j = m j := by
  by_cases h0 : cplE s ps l = 0
  · have po := cpl_ok.1 h0
    have hg := po.ok.g
    have g1 := hg.s1; have g2 := hg.s2; have g3 := hg.s3; have g4 := hg.o1; have g5 := hg.o2
    have l1 := po.l1; have l2 := po.l2
    have hV : speV s ps l = (spMin s ps l l.length, spMax s ps l l.length) := if_pos h0
    refine cwpK tabOk Try.func24 rfl rfl (show 3 ≤ _ by decide) rfl fun _ => ?_; simp only [Try.ntmps24]
    repeat (first | (with_reducible first | refine AWi.seqK fun _ => ?_ | refine AWi.blockK fun _ => ?_ | refine KI.go ?_) | ((first | refine AWi.region tabOk ?_ | refine AWi.condK fun _ _ => ?_); simp [-getElem?_pos, z0, z1, z2, z0]) | ((first | refine AWi.ret ?_ | refine AWi.skip ?_ | refine AWi.exit ?_); try simp only [thenP]) | (with_reducible refine BB.go ?_; simp only [blockP, thenP, reduceIte]))
    refine ExecI.callC (checkRuns_w s ps hl l hll _ _) rfl (by simp [calleeS, evList]) ?_
    rintro y n1 m1 ⟨q1, q2, q3⟩
    rw [rnP, if_pos h0] at q2
    obtain ⟨w, q4, q5, rfl, hw⟩ := q2
    have hlow : ∀ j, j < n → m1 j = m j := fun j hj => (q3 j (by omega)).trans (by (try dsimp only); repeat (first | rw [setMem_lt (by omega)] | rw [putN_lt (by omega)]))
    have r0 : m1 n = some (.box 25 (sto5 s) false) := (q3 _ (by omega)).trans (by simp)
    have r1 : m1 (n + 1) = some (.box 26 [.d (intL ps)] false) := (q3 _ (by omega)).trans (by simp)
    have r2 : m1 (n + 1 + 1) = some (.box 23 [.d (iD 0), .d (iD 0)] false) := (q3 _ (by omega)).trans (by simp)
    have o0 : ¬ n = n1 := by omega
    have o1 : ¬ n = n1 + 1 := by omega
    have o2 : ¬ n = n1 + 2 := by omega
    have o3 : ¬ n = n1 + 3 := by omega
    simp
    repeat (first | (with_reducible first | refine AWi.seqK fun _ => ?_ | refine AWi.blockK fun _ => ?_ | refine KI.go ?_) | ((first | refine AWi.region tabOk ?_ | refine AWi.condK fun _ _ => ?_); simp [-getElem?_pos, z0, z1, z2, r0, r1, r2, o0, o1, o2, o3]) | ((first | refine AWi.ret ?_ | refine AWi.skip ?_ | refine AWi.exit ?_); try simp only [thenP]) | (with_reducible refine BB.go ?_; simp only [blockP, thenP, reduceIte]))
    refine ExecI.callC (lasts_w w l _ _) rfl (by simp [calleeS, evList]) ?_
    rintro y n4 m4 ⟨rfl, rfl, rfl⟩
    simp
    repeat (first | (with_reducible first | refine AWi.seqK fun _ => ?_ | refine AWi.blockK fun _ => ?_ | refine KI.go ?_) | ((first | refine AWi.region tabOk ?_ | refine AWi.condK fun _ _ => ?_); simp [-getElem?_pos, z0, z1, z2, z0]) | ((first | refine AWi.ret ?_ | refine AWi.skip ?_ | refine AWi.exit ?_); try simp only [thenP]) | (with_reducible refine BB.go ?_; simp only [blockP, thenP, reduceIte]))
    have hlow2 : ∀ j, j < n1 → (setMem (setMem m1 (n1 + 1 + 1 + 1 + 1 + 1 + 1 + 1 + 1) (some (Blk.box 23 [SV.d (Dat.val (Value.int IntKind.i64 0)), SV.d (Dat.val (Value.int IntKind.i64 0))] false))) (n1 + 1 + 1 + 1 + 1 + 1 + 1 + 1 + 1) (some (Blk.box 23 [SV.d (Dat.val (Value.int IntKind.i64 1000000000)), SV.d (Dat.val (Value.int IntKind.i64 0))] false))) j = m1 j := fun j hj => by (try dsimp only); repeat (first | rw [setMem_lt (by omega)] | rw [putN_lt (by omega)])
    have hc10 : (setMem (setMem m1 (n1 + 1 + 1 + 1 + 1 + 1 + 1 + 1 + 1) (some (Blk.box 23 [SV.d (Dat.val (Value.int IntKind.i64 0)), SV.d (Dat.val (Value.int IntKind.i64 0))] false))) (n1 + 1 + 1 + 1 + 1 + 1 + 1 + 1 + 1) (some (Blk.box 23 [SV.d (Dat.val (Value.int IntKind.i64 1000000000)), SV.d (Dat.val (Value.int IntKind.i64 0))] false))) (n1 + 1 + 1 + 1 + 1 + 1 + 1 + 1 + 1) = some (Blk.box 23 [SV.d (iD (spMin s ps l 0)), SV.d (iD (spMax s ps l 0))] false) := if_pos rfl
    generalize (setMem (setMem m1 (n1 + 1 + 1 + 1 + 1 + 1 + 1 + 1 + 1) (some (Blk.box 23 [SV.d (Dat.val (Value.int IntKind.i64 0)), SV.d (Dat.val (Value.int IntKind.i64 0))] false))) (n1 + 1 + 1 + 1 + 1 + 1 + 1 + 1 + 1) (some (Blk.box 23 [SV.d (Dat.val (Value.int IntKind.i64 1000000000)), SV.d (Dat.val (Value.int IntKind.i64 0))] false))) = m2 at *
    obtain ⟨q, hq⟩ : ∃ q, q = n1 + 1 + 1 + 1 + 1 + 1 + 1 + 1 + 1 := ⟨_, rfl⟩
    obtain ⟨N, hN⟩ : ∃ N, N = n1 + 1 + 1 + 1 + 1 + 1 + 1 + 1 + 1 + 1 + 1 + 1 + 1 := ⟨_, rfl⟩
    rw [← hN]
    refine AWi.iterK (lasts1_w (s := s) (ps := ps) (A := allR s ps fun _ => true) hg w N (N + 1) l l2 (fun j x p hx => by have := runs_in po.runs j x p hx; omega)) (f := 76) (us := []) (vs := [.ptr (N + 1) 0 0, .ptr N 0 0]) (by simp [-getElem?_pos, z0, z1, z2]) (fun _ => rfl) (fun _ h => by cases h) rfl (by intro z hz; obtain ⟨x, _, rfl⟩ := List.mem_map.1 hz; rfl)
      (fun i mm => (∀ j, j < n1 → mm j = m1 j) ∧ mm N = some (.box 76 [.ptr w 0 0] false) ∧ mm (N + 1) = some (.box 36 [.d (runsD l)] false) ∧ mm (n1 + 1 + 1 + 1 + 1 + 1 + 1 + 1 + 1) = some (.box 23 [.d (iD (spMin s ps l i)), .d (iD (spMax s ps l i))] false))
      (fun c mm => False) ?_ ?_ (fun i mm h => ⟨(h.1 w (by omega)).trans hw, ⟨_, h.2.1⟩, ⟨_, h.2.2.1⟩⟩) ?_ ?_ ?_ ?_
    · rintro i mm mm' h ⟨h1, h2, h3, h4⟩
      exact ⟨fun j hj => (h j (by omega)).trans (h1 j hj), (h _ (by omega)).trans h2, (h _ (by omega)).trans h3, (h _ (by omega)).trans h4⟩
    · exact fun c mm mm' h hf => hf
    · refine ⟨fun j hj => by simp only [lastM]; rw [setMem, if_neg (by omega), setMem, if_neg (by omega)]; exact hlow2 j hj, by simp, by simp, ?_⟩
      simp only [lastM]
      rw [setMem, if_neg (by omega), setMem, if_neg (by omega)]
      exact hc10
    · rintro i n5 m5 z hz hn5 ⟨h1, h2, h3, h4⟩ kr
      rw [List.getElem?_map, Option.map_eq_some_iff] at hz
      obtain ⟨j, hj, rfl⟩ := hz
      obtain ⟨hil, rfl⟩ : i < l.length ∧ i = j := by
        obtain ⟨a, b⟩ := List.getElem?_eq_some_iff.1 hj
        simp at a b
        exact ⟨a, b⟩
      obtain ⟨⟨x, p⟩, hx⟩ : ∃ r, l[i]? = some r := ⟨_, List.getElem?_eq_getElem hil⟩
      obtain ⟨P, t, rfl, r⟩ := po.at hx
      have hb := po.lo hx
      have hP := r.hP
      have hPi : (P : Int) < ps.length := by omega
      have ht := r.turn
      have e1 : spLo s ps l i = (endR s l i - s.off) * t := by rw [spLo, hx]; simp only [r.ta]
      have e2 : spHi s ps l i = (x + s.off) * t := by rw [spHi, hx]; simp only [r.ta]
      have := r.e1; have := r.e2; have := r.x1; have := r.x2
      have v1 : IntKind.i64.wrap (endR s l i - s.off) = endR s l i - s.off := wrap64_in (by omega)
      have v2 : IntKind.i64.wrap (x + s.off) = x + s.off := wrap64_in (by omega)
      have v3 : IntKind.i64.wrap ((endR s l i - s.off) * t) = spLo s ps l i := by rw [← e1]; exact wrap64_in (by omega)
      have v4 : IntKind.i64.wrap ((x + s.off) * t) = spHi s ps l i := by rw [← e2]; exact wrap64_in (by omega)
      have hlv : lastV s l i = [.agg [.d (iD x), .d (iD P)], .d (iD (endR s l i))] := by simp [lastV, List.getD_eq_getElem?_getD, hx]
      rw [hlv]
      have s1 : spMin s ps l (i + 1) = min (spMin s ps l i) (spLo s ps l i) := rfl
      have s2 : spMax s ps l (i + 1) = max (spMax s ps l i) (spHi s ps l i) := rfl
      generalize spLo s ps l i = lo at *
      generalize spHi s ps l i = hi2 at *
      generalize endR s l i = z at *
      generalize spMin s ps l i = a at *
      generalize spMax s ps l i = b at *
      have m1' : (if lo < a then lo else a) = min a lo := by split <;> omega
      have m2' : (if b < hi2 then hi2 else b) = max b hi2 := by split <;> omega
      clear e1 e2
      repeat (first | (with_reducible first | refine AWi.seqK fun _ => ?_ | refine AWi.blockK fun _ => ?_ | refine KI.go ?_) | ((first | refine AWi.region tabOk ?_ | refine AWi.condK fun _ _ => ?_); simp [-getElem?_pos, z0, z1, z2, putAll]) | ((first | refine AWi.ret ?_ | refine AWi.skip ?_ | refine AWi.exit ?_); try simp only [thenP]) | (with_reducible refine BB.go ?_; simp only [blockP, thenP, reduceIte]))
      refine RB.go (by omega) (fun j hj => by (try dsimp only); repeat (first | rw [setMem_lt (by omega)] | rw [putN_lt (by omega)])) fun rc hrc qq => ?_
      have w0 := (h1 _ (by omega)).trans r0
      have w1 := (h1 _ (by omega)).trans r1
      have p1 : ¬ n = n5 := by omega
      have p2 : ¬ n + 1 = n5 := by omega
      have p3 : ¬ n = N + 5 := by omega
      have p4 : ¬ n + 1 = N + 5 := by omega
      have p5 : ¬ n5 = N + 5 := by omega
      have p6 : ¬ n1 + 8 = n5 := by omega
      have p7 : ¬ n1 + 8 = N + 5 := by omega
      have p8 : ¬ n = n1 + 8 := by omega
      have p9 : ¬ n5 = n1 + 8 := by omega
      have p10 : ¬ n = N + 4 := by omega
      have p11 : ¬ n1 + 1 + 1 + 1 = N := by omega
      repeat (first | (with_reducible first | refine AWi.seqK fun _ => ?_ | refine AWi.blockK fun _ => ?_ | refine KI.go ?_) | ((first | refine AWi.region tabOk ?_ | refine AWi.condK fun _ _ => ?_); simp [-getElem?_pos, z0, z1, z2, w0, w1, h4, hP, hPi, ht, v1, v2, v3, v4, m1', m2', p1, p2, p3, p4, p5, p6, p7, p8, p9, p10, p11]) | ((first | refine AWi.ret ?_ | refine AWi.skip ?_ | refine AWi.exit ?_); try simp only [thenP]) | (with_reducible refine BB.go ?_; simp only [blockP, thenP, reduceIte]))
      have u9 : ∀ j, j < n5 → j ≠ N + 1 + 1 + 1 + 1 + 1 → j ≠ n1 + 1 + 1 + 1 + 1 + 1 + 1 + 1 + 1 → ∀ (b1 b2 b3 b4 b5 : Option Blk), setMem (setMem (setMem (setMem (setMem m5 n5 b1) n5 b2) (N + 1 + 1 + 1 + 1 + 1) b3) (n1 + 1 + 1 + 1 + 1 + 1 + 1 + 1 + 1) b4) (n1 + 1 + 1 + 1 + 1 + 1 + 1 + 1 + 1) b5 j = m5 j := fun j j0 j1 j2 b1 b2 b3 b4 b5 => by
        rw [setMem, if_neg (by omega), setMem, if_neg (by omega), setMem, if_neg (by omega), setMem, if_neg (by omega), setMem, if_neg (by omega)]
      exact RE.normal (by omega) (fun j j1 j2 => show setMem _ _ _ j = _ by rw [setMem, if_neg (by omega), setMem, if_neg (by omega)]) ⟨fun j hj => (u9 j (by omega) (by omega) (by omega) _ _ _ _ _).trans (h1 j hj), (u9 N (by omega) (by omega) (by omega) _ _ _ _ _).trans h2, (u9 (N + 1) (by omega) (by omega) (by omega) _ _ _ _ _).trans h3, by rw [s1, s2]; exact if_pos rfl⟩
    · rintro n' m' hn' ⟨h1, h2, h3, h4⟩
      simp only [thenP]
      rw [List.length_map, List.length_range] at h4
      have u2 := (h1 _ (by omega)).trans r2
      have o4 : ¬ n1 + 8 = n + 1 := by omega
      repeat (first | (with_reducible first | refine AWi.seqK fun _ => ?_ | refine AWi.blockK fun _ => ?_ | refine KI.go ?_) | ((first | refine AWi.region tabOk ?_ | refine AWi.condK fun _ _ => ?_); simp [-getElem?_pos, z0, z1, z2, h4, u2]) | ((first | refine AWi.ret ?_ | refine AWi.skip ?_ | refine AWi.exit ?_); try simp only [thenP]) | (with_reducible refine BB.go ?_; simp only [blockP, thenP, reduceIte]))
      refine RI.ret (xs := [.agg [.d (iD (spMin s ps l l.length)), .d (iD (spMax s ps l l.length))], .d (iD 0)]) (by simp [Try.results24, resSlots, resSlot, h4, u2]) ?_
      exact ⟨by rw [hV, h0]; rfl, fun j hj => Eq.trans (by (try dsimp only); repeat (first | rw [setMem_lt (by omega)] | rw [putN_lt (by omega)])) ((h1 j (by omega)).trans (hlow j hj))⟩
    · exact fun c n' m' hn' hf => hf.elim
  · have hV : speV s ps l = (0, 0) := if_neg h0
    refine cwpK tabOk Try.func24 rfl rfl (show 3 ≤ _ by decide) rfl fun _ => ?_; simp only [Try.ntmps24]
    repeat (first | (with_reducible first | refine AWi.seqK fun _ => ?_ | refine AWi.blockK fun _ => ?_ | refine KI.go ?_) | ((first | refine AWi.region tabOk ?_ | refine AWi.condK fun _ _ => ?_); simp [-getElem?_pos, z0, z1, z2, z0]) | ((first | refine AWi.ret ?_ | refine AWi.skip ?_ | refine AWi.exit ?_); try simp only [thenP]) | (with_reducible refine BB.go ?_; simp only [blockP, thenP, reduceIte]))
    refine ExecI.callC (checkRuns_w s ps hl l hll _ _) rfl (by simp [calleeS, evList]) ?_
    rintro y n1 m1 ⟨q1, q2, q3⟩
    rw [rnP, if_neg h0] at q2
    subst q2
    have hlow : ∀ j, j < n → m1 j = m j := fun j hj => (q3 j (by omega)).trans (by (try dsimp only); repeat (first | rw [setMem_lt (by omega)] | rw [putN_lt (by omega)]))
    have r2 : m1 (n + 1 + 1) = some (.box 23 [.d (iD 0), .d (iD 0)] false) := (q3 _ (by omega)).trans (by simp)
    have o1 : ¬ n = n1 + 1 := by omega
    simp
    repeat (first | (with_reducible first | refine AWi.seqK fun _ => ?_ | refine AWi.blockK fun _ => ?_ | refine KI.go ?_) | ((first | refine AWi.region tabOk ?_ | refine AWi.condK fun _ _ => ?_); simp [-getElem?_pos, z0, z1, z2, h0, r2, o1]) | ((first | refine AWi.ret ?_ | refine AWi.skip ?_ | refine AWi.exit ?_); try simp only [thenP]) | (with_reducible refine BB.go ?_; simp only [blockP, thenP, reduceIte]))
    refine RI.ret (xs := [.agg [.d (iD 0), .d (iD 0)], .d (iD (cplE s ps l))]) (by simp [Try.results24, resSlots, resSlot, r2]) ?_
    exact ⟨by rw [hV]; rfl, fun j hj => Eq.trans (by (try dsimp only); repeat (first | rw [setMem_lt (by omega)] | rw [putN_lt (by omega)])) (hlow j hj)⟩
theorem speeds_c (s : RS) (ps : List Int) (hl : ps.length ≤ 1000000) (l : List (Int × Int)) (hll : l.length ≤ 1000000) : ACall Try.prog 24 [stoD s, intL ps, runsD l] (.tup [rngD (speV s ps l), iD (cplE s ps l)]) :=
  ACall.ofR (RCall.of4 (n0 := 0) fun n _ => (speeds_x s ps hl l hll n _).mono fun _ _ _ h => h)
end Go.Proofs.Ytdkneonokbakjaa.Eng

noncomputable section
namespace Go.Proofs.Ytdkneonokbakjaa.Eng
open Go.RowKit
variable {P : Program} {T : Tab} {Z : ZTab} {Q : QTab} {M : MTab} {K : Known}
def chkV (P : Program) (T : Tab) (Z : ZTab) (Q : QTab) (M : MTab) (K : Known) (fuel : Nat) (f : FuncId) (v : Value) : Bool := match callFn P T (runR P T Z Q M K fuel) f [] 0 .lf with
  | some q => same1 q.y (.d (.val v))
  | none => false
theorem chkV_ok {fuel : Nat} {f : FuncId} {v : Value} (h : chkV P T Z Q M K fuel f v = true) : (callFn P T (runR P T Z Q M K fuel) f [] 0 .lf).map (·.y) = some (.d (.val v)) := by
  unfold chkV at h
  split at h
  · rename_i q hq
    rw [hq, Option.map_some, same1_eq h]
  · cases h
end Go.Proofs.Ytdkneonokbakjaa.Eng

noncomputable section
namespace Go.Proofs.Ytdkneonokbakjaa.Eng
open Go.RowKit
set_option maxRecDepth 100000
def goodE (cells : List SV) (q : List Int × SV × Nat) : Bool := match q.1 with
  | [.ofNat k] => Nat.ble (k + 1) 12 && (match cells[6 + k * 2]? with
    | some (.d (.val (.int .i64 _))) => true
    | _ => false)
  | _ => false
def okEs2 (cells : List SV) (es : List (List Int × SV × Nat)) (clock : Nat) : Bool := es.all (fun q => goodE cells q && Nat.ble (q.2.2 + 1) clock) && decide (es.map (·.1)).Nodup && decide (es.map (·.2.2)).Nodup
def passSum (args : List SV) (n : Nat) (m : Tr CB) : Option Rs := match args with
  | [.ptr wid 0 0, .mp id, .d (.val (.int .i64 len))] => match m.get wid, m.get id with
    | some (.bx none ty N d t f), some (.mp false [.i64] es clock) => match Nat.beq ty 83 && Nat.ble id 10000000 && okEs2 (cellsOf N d t 0) es clock with
      | true => some ⟨.tup [], n + 20 + 60 * es.length, putM m id (some (.mp false [.i64] (passL (cellsOf N d t 0) len es) clock))⟩
      | false => none
    | _, _ => none
  | _ => none
theorem goodE_spec {cells : List SV} {q : List Int × SV × Nat} (h : goodE cells q = true) : ∃ (p : Nat) (lo : Int), p < 12 ∧ q.1 = [(p : Int)] ∧ cells[6 + p * 2]? = some (.d (iD lo)) := by
  unfold goodE at h
  split at h
  · rename_i k hq
    rw [Bool.and_eq_true] at h
    obtain ⟨h1, h2⟩ := h
    split at h2
    · rename_i lo hc
      exact ⟨k, lo, by have := Nat.le_of_ble_eq_true h1; omega, hq, hc⟩
    · cases h2
  · cases h
theorem pass_callable : Callable Try.prog 79 :=
  (pass_w (m := fun j => if j = 0 then some (.box 83 [] false) else if j = 1 then some (mapB mi [] 0) else none) (wid := 0) (id := 1) (clock := 0) (cells := []) (f := false) (es := []) (by simp) (by simp) (by decide) (n := 2) (by decide) (by decide) (by simp) (by simp) (by simp) (by simp) 0).callable
theorem passSum_ok {args : List SV} {n : Nat} {m : Tr CB} {q : Rs} (h : passSum args n m = some q) : Calls2 Try.prog 79 args n m q := by
  unfold passSum at h
  split at h
  · rename_i wid id len
    split at h
    · rename_i ty N d t f es clock h1 h2
      split at h
      · rename_i hc
        cases h
        simp only [Bool.and_eq_true, Nat.beq_eq, okEs2, List.all_eq_true, decide_eq_true_eq] at hc
        obtain ⟨⟨rfl, hid⟩, ⟨hall, hn1⟩, hn2⟩ := hc
        have hm1 : mOf m wid = some (.box 83 (cellsOf N d t 0) f) := mOf_get h1
        have hm2 : mOf m id = some (mapB mi es clock) := mOf_get h2
        have hne : wid ≠ id := fun e => by rw [e, h2] at h1; cases h1
        refine ⟨⟨pass_callable, fun W0 R0 E w vs M hs hr => ?_⟩, by show n ≤ n + 20 + 60 * es.length; omega, Recs.put (lt_deep hid) fun st pe k sl ps x y e => by rw [h2] at e; cases e⟩
        have hlt : ∀ i b, mOf m i = some b → i < n := fun i b hi => M.dom i (M.live i b hi)
        have H := pass_w hm1 hm2 hne (hlt _ _ hm1) (hlt _ _ hm2) (fun q hq => goodE_spec (hall q hq).1) hn1 hn2 (fun q hq => by have := Nat.le_of_ble_eq_true (hall q hq).2; omega) len
        refine (H.calls W0 R0 E w vs M hs hr).mono ?_
        rintro e w' ⟨v, E', n', m', y, rfl, M2, hE, hk, hv, k1, k2, rfl, k4⟩
        have hm : ∀ i b, mOf (putM m id (some (.mp false [.i64] (passL (cellsOf N d t 0) len es) clock))) i = some b → m' i = some b := fun i b hb => by
          rw [mOf_put (lt_deep hid)] at hb
          unfold setMem at hb
          split at hb
          · rename_i e
            subst e
            rw [k4 i (hlt _ _ hm2), if_pos rfl]
            exact hb
          · rename_i e
            rw [k4 i (hlt _ _ hb), if_neg e]
            exact hb
        exact ⟨v, E', _, _, _, rfl, ⟨M2.below, M2.ro0, M2.ro1, M2.rlt, fun i hi => Nat.lt_of_lt_of_le (M2.dom i hi) k2, fun i b hi => M2.live i b (hm i b hi), fun i b hi => M2.mem i b (hm i b hi), fun i b hi => M2.base i b (hm i b hi), fun i b hi => M2.frz i b (hm i b hi), fun i j b c hi hj hne => M2.inj i j b c (hm i b hi) (hm j c hj) hne⟩, hE, hk, hv, rfl, rfl, rfl⟩
      · cases h
    · cases h
  · cases h
def SMS : Sums := fun f => match Nat.beq f 79 with
  | true => some passSum
  | false => none
theorem smsOk : SumsOk Try.prog SMS := fun f g h args n m q hq => by
  unfold SMS at h
  split at h
  · rename_i e
    cases h
    rw [Nat.beq_eq] at e
    subst e
    exact passSum_ok hq
  · cases h
end Go.Proofs.Ytdkneonokbakjaa.Eng

namespace Go.Proofs.Ytdkneonokbakjaa.Eng
open Go.RowKit
set_option maxRecDepth 100000
def ra1 : Ent := ⟨18, [(.agg [(.d (.val (.int .i64 3000))), (.d (.val (.int .i64 1500))), (.d (.val (.int .i64 10))), (.d (.val (.int .i64 540000))), (.d (.val (.int .i64 720000)))]), (.sl 4 0 5 (some 5)), (.d (.val (.int .i64 1)))], 7, (.nd none .lf (.nd none (.nd (some (.bx none 2 5 [(.d (.val (.int .i64 200))), (.d (.val (.int .i64 250))), (.d (.val (.int .i64 260))), (.d (.val (.int .i64 300))), (.d (.val (.int .i64 390)))] .lf false)) .lf .lf) .lf)), ⟨(.tup [(.agg [(.d (.val (.int .i64 2170))), (.d (.val (.int .i64 2870)))]), (.d (.val (.int .i64 0)))]), 46, (.nd none .lf (.nd none (.nd (some (.bx none 2 5 [(.d (.val (.int .i64 200))), (.d (.val (.int .i64 250))), (.d (.val (.int .i64 260))), (.d (.val (.int .i64 300))), (.d (.val (.int .i64 390)))] .lf false)) .lf .lf) .lf))⟩⟩
theorem ra1_ok : Calls2 Try.prog ra1.f ra1.args ra1.n ra1.m ra1.q := chk_ok (fuel := 600) tabOk ztOk qtOk mtOk (known_sums smsOk) noGor mixed (by decide +kernel)
end Go.Proofs.Ytdkneonokbakjaa.Eng

namespace Go.Proofs.Ytdkneonokbakjaa.Eng
open Go.RowKit
set_option maxRecDepth 100000
def ra2 : Ent := ⟨20, [(.agg [(.d (.val (.int .i64 3000))), (.d (.val (.int .i64 1500))), (.d (.val (.int .i64 10))), (.d (.val (.int .i64 540000))), (.d (.val (.int .i64 720000)))]), (.sl 4 0 5 (some 5))], 48, (.nd none .lf (.nd none (.nd (some (.bx none 2 5 [(.d (.val (.int .i64 200))), (.d (.val (.int .i64 250))), (.d (.val (.int .i64 260))), (.d (.val (.int .i64 300))), (.d (.val (.int .i64 390)))] .lf false)) .lf .lf) .lf)), ⟨(.tup [(.d (.val (.int .i64 0))), (.d (.val (.int .i64 5)))]), 143, (.nd none .lf (.nd none (.nd (some (.bx none 2 5 [(.d (.val (.int .i64 200))), (.d (.val (.int .i64 250))), (.d (.val (.int .i64 260))), (.d (.val (.int .i64 300))), (.d (.val (.int .i64 390)))] .lf false)) .lf .lf) .lf))⟩⟩
theorem ra2_ok : Calls2 Try.prog ra2.f ra2.args ra2.n ra2.m ra2.q := chk_ok (fuel := 600) tabOk ztOk qtOk mtOk (known_sums smsOk) noGor mixed (by decide +kernel)
end Go.Proofs.Ytdkneonokbakjaa.Eng

namespace Go.Proofs.Ytdkneonokbakjaa.Eng
open Go.RowKit
set_option maxRecDepth 100000
def ra3 : Ent := ⟨20, [(.agg [(.d (.val (.int .i64 3000))), (.d (.val (.int .i64 1500))), (.d (.val (.int .i64 10))), (.d (.val (.int .i64 540000))), (.d (.val (.int .i64 720000)))]), (.sl 143 0 5 (some 5))], 144, (.nd none (.nd none (.nd none (.nd none (.nd none .lf (.nd none (.nd none (.nd (some (.bx none 2 5 [(.d (.val (.int .i64 200))), (.d (.val (.int .i64 250))), (.d (.val (.int .i64 260))), (.d (.val (.int .i64 300))), (.d (.val (.int .i64 400)))] .lf false)) .lf .lf) .lf) .lf)) .lf) .lf) .lf) .lf), ⟨(.tup [(.d (.val (.int .i64 1809))), (.d (.val (.int .i64 0)))]), 267, (.nd none (.nd none (.nd none (.nd none (.nd none .lf (.nd none (.nd none (.nd (some (.bx none 2 5 [(.d (.val (.int .i64 200))), (.d (.val (.int .i64 250))), (.d (.val (.int .i64 260))), (.d (.val (.int .i64 300))), (.d (.val (.int .i64 400)))] .lf false)) .lf .lf) .lf) .lf)) .lf) .lf) .lf) .lf)⟩⟩
theorem ra3_ok : Calls2 Try.prog ra3.f ra3.args ra3.n ra3.m ra3.q := chk_ok (fuel := 600) tabOk ztOk qtOk mtOk (known_sums smsOk) noGor mixed (by decide +kernel)
end Go.Proofs.Ytdkneonokbakjaa.Eng

namespace Go.Proofs.Ytdkneonokbakjaa.Eng
open Go.RowKit
set_option maxRecDepth 100000
def ra4 : Ent := ⟨28, [(.agg [(.d (.val (.int .i64 3000))), (.d (.val (.int .i64 1500))), (.d (.val (.int .i64 10))), (.d (.val (.int .i64 540000))), (.d (.val (.int .i64 720000)))]), (.sl 4 0 5 (some 5))], 267, (.nd none .lf (.nd none (.nd (some (.bx none 2 5 [(.d (.val (.int .i64 200))), (.d (.val (.int .i64 250))), (.d (.val (.int .i64 260))), (.d (.val (.int .i64 300))), (.d (.val (.int .i64 390)))] .lf false)) .lf .lf) .lf)), ⟨(.tup [(.sl 1509 0 4 (some 4)), (.d (.val (.int .i64 0)))]), 1511, (.nd none (.nd none .lf (.nd none .lf (.nd none (.nd none (.nd none .lf (.nd none .lf (.nd none .lf (.nd none .lf (.nd none (.nd (some (.bx none 59 8 [(.d (.val (.int .i64 0))), (.d (.val (.int .i64 0)))] (.nd (some (.d (.val (.int .i64 3000)))) (.nd (some (.d (.val (.int .i64 0)))) (.nd (some (.d (.val (.int .i64 2)))) (.nd (some (.d (.val (.int .i64 4)))) .lf .lf) .lf) (.nd (some (.d (.val (.int .i64 3)))) .lf .lf)) (.nd (some (.d (.val (.int .i64 2709)))) (.nd (some (.d (.val (.int .i64 2086)))) .lf .lf) (.nd (some (.d (.val (.int .i64 1809)))) .lf .lf))) false)) .lf .lf) .lf))))) .lf) .lf))) (.nd none (.nd (some (.bx none 2 5 [(.d (.val (.int .i64 200))), (.d (.val (.int .i64 250))), (.d (.val (.int .i64 260))), (.d (.val (.int .i64 300))), (.d (.val (.int .i64 390)))] .lf false)) .lf .lf) .lf))⟩⟩
theorem ra4_ok : Calls2 Try.prog ra4.f ra4.args ra4.n ra4.m ra4.q := chk_ok (fuel := 600) tabOk ztOk qtOk mtOk (known_sums smsOk) noGor mixed (by decide +kernel)
end Go.Proofs.Ytdkneonokbakjaa.Eng

namespace Go.Proofs.Ytdkneonokbakjaa.Eng
open Go.RowKit
set_option maxRecDepth 100000
def ra5 : Ent := ⟨24, [(.agg [(.d (.val (.int .i64 3000))), (.d (.val (.int .i64 1500))), (.d (.val (.int .i64 10))), (.d (.val (.int .i64 540000))), (.d (.val (.int .i64 720000)))]), (.sl 4 0 5 (some 5)), (.sl 1509 0 4 (some 4))], 1511, (.nd none (.nd none .lf (.nd none .lf (.nd none (.nd none (.nd none .lf (.nd none .lf (.nd none .lf (.nd none .lf (.nd none (.nd (some (.bx none 59 8 [(.d (.val (.int .i64 0))), (.d (.val (.int .i64 0)))] (.nd (some (.d (.val (.int .i64 3000)))) (.nd (some (.d (.val (.int .i64 0)))) (.nd (some (.d (.val (.int .i64 2)))) (.nd (some (.d (.val (.int .i64 4)))) .lf .lf) .lf) (.nd (some (.d (.val (.int .i64 3)))) .lf .lf)) (.nd (some (.d (.val (.int .i64 2709)))) (.nd (some (.d (.val (.int .i64 2086)))) .lf .lf) (.nd (some (.d (.val (.int .i64 1809)))) .lf .lf))) false)) .lf .lf) .lf))))) .lf) .lf))) (.nd none (.nd (some (.bx none 2 5 [(.d (.val (.int .i64 200))), (.d (.val (.int .i64 250))), (.d (.val (.int .i64 260))), (.d (.val (.int .i64 300))), (.d (.val (.int .i64 390)))] .lf false)) .lf .lf) .lf)), ⟨(.tup [(.agg [(.d (.val (.int .i64 540000))), (.d (.val (.int .i64 709410)))]), (.d (.val (.int .i64 0)))]), 1647, (.nd none (.nd none .lf (.nd none .lf (.nd none (.nd none (.nd none .lf (.nd none .lf (.nd none .lf (.nd none .lf (.nd none (.nd (some (.bx none 59 8 [(.d (.val (.int .i64 0))), (.d (.val (.int .i64 0)))] (.nd (some (.d (.val (.int .i64 3000)))) (.nd (some (.d (.val (.int .i64 0)))) (.nd (some (.d (.val (.int .i64 2)))) (.nd (some (.d (.val (.int .i64 4)))) .lf .lf) .lf) (.nd (some (.d (.val (.int .i64 3)))) .lf .lf)) (.nd (some (.d (.val (.int .i64 2709)))) (.nd (some (.d (.val (.int .i64 2086)))) .lf .lf) (.nd (some (.d (.val (.int .i64 1809)))) .lf .lf))) false)) .lf .lf) .lf))))) .lf) .lf))) (.nd none (.nd (some (.bx none 2 5 [(.d (.val (.int .i64 200))), (.d (.val (.int .i64 250))), (.d (.val (.int .i64 260))), (.d (.val (.int .i64 300))), (.d (.val (.int .i64 390)))] .lf false)) .lf .lf) .lf))⟩⟩
theorem ra5_ok : Calls2 Try.prog ra5.f ra5.args ra5.n ra5.m ra5.q := chk_ok (fuel := 600) tabOk ztOk qtOk mtOk (known_sums smsOk) noGor mixed (by decide +kernel)
end Go.Proofs.Ytdkneonokbakjaa.Eng

namespace Go.Proofs.Ytdkneonokbakjaa.Eng
open Go.RowKit
set_option maxRecDepth 100000
def ra6 : Ent := ⟨26, [(.agg [(.d (.val (.int .i64 3000))), (.d (.val (.int .i64 1500))), (.d (.val (.int .i64 10))), (.d (.val (.int .i64 540000))), (.d (.val (.int .i64 720000)))]), (.sl 4 0 5 (some 5)), (.sl 1657 0 4 (some 4))], 1658, (.nd none (.nd none .lf (.nd none (.nd none .lf (.nd none .lf (.nd none .lf (.nd none .lf (.nd none (.nd none (.nd none .lf (.nd (some (.bx none 59 8 [(.d (.val (.int .i64 3000))), (.d (.val (.int .i64 0))), (.d (.val (.int .i64 2800))), (.d (.val (.int .i64 1))), (.d (.val (.int .i64 2100))), (.d (.val (.int .i64 3))), (.d (.val (.int .i64 1836))), (.d (.val (.int .i64 4)))] .lf false)) .lf .lf)) .lf) .lf))))) .lf)) (.nd none (.nd (some (.bx none 2 5 [(.d (.val (.int .i64 200))), (.d (.val (.int .i64 250))), (.d (.val (.int .i64 260))), (.d (.val (.int .i64 300))), (.d (.val (.int .i64 390)))] .lf false)) .lf .lf) .lf)), ⟨(.d (.val (.int .i64 19))), 1746, (.nd none (.nd none .lf (.nd none (.nd none .lf (.nd none .lf (.nd none .lf (.nd none .lf (.nd none (.nd none (.nd none .lf (.nd (some (.bx none 59 8 [(.d (.val (.int .i64 3000))), (.d (.val (.int .i64 0))), (.d (.val (.int .i64 2800))), (.d (.val (.int .i64 1))), (.d (.val (.int .i64 2100))), (.d (.val (.int .i64 3))), (.d (.val (.int .i64 1836))), (.d (.val (.int .i64 4)))] .lf false)) .lf .lf)) .lf) .lf))))) .lf)) (.nd none (.nd (some (.bx none 2 5 [(.d (.val (.int .i64 200))), (.d (.val (.int .i64 250))), (.d (.val (.int .i64 260))), (.d (.val (.int .i64 300))), (.d (.val (.int .i64 390)))] .lf false)) .lf .lf) .lf))⟩⟩
theorem ra6_ok : Calls2 Try.prog ra6.f ra6.args ra6.n ra6.m ra6.q := chk_ok (fuel := 600) tabOk ztOk qtOk mtOk (known_sums smsOk) noGor mixed (by decide +kernel)
end Go.Proofs.Ytdkneonokbakjaa.Eng

namespace Go.Proofs.Ytdkneonokbakjaa.Eng
open Go.RowKit
set_option maxRecDepth 100000
def ra7 : Ent := ⟨30, [(.agg [(.d (.val (.int .i64 3000))), (.d (.val (.int .i64 1500))), (.d (.val (.int .i64 10))), (.d (.val (.int .i64 540000))), (.d (.val (.int .i64 720000)))]), (.sl 4 0 5 (some 5))], 1746, (.nd none .lf (.nd none (.nd (some (.bx none 2 5 [(.d (.val (.int .i64 200))), (.d (.val (.int .i64 250))), (.d (.val (.int .i64 260))), (.d (.val (.int .i64 300))), (.d (.val (.int .i64 390)))] .lf false)) .lf .lf) .lf)), ⟨(.tup [(.sl 3007 0 4 (some 4)), (.d (.val (.int .i64 0)))]), 3009, (.nd none (.nd none (.nd none (.nd none (.nd none (.nd none (.nd none .lf (.nd none .lf (.nd none .lf (.nd none .lf (.nd none (.nd (some (.bx none 2 4 [(.d (.val (.int .i64 0)))] (.nd (some (.d (.val (.int .i64 3000)))) (.nd (some (.d (.val (.int .i64 2709)))) (.nd (some (.d (.val (.int .i64 1809)))) .lf .lf) .lf) (.nd (some (.d (.val (.int .i64 2086)))) .lf .lf)) false)) .lf .lf) .lf))))) .lf) .lf) .lf) .lf) .lf) (.nd none (.nd (some (.bx none 2 5 [(.d (.val (.int .i64 200))), (.d (.val (.int .i64 250))), (.d (.val (.int .i64 260))), (.d (.val (.int .i64 300))), (.d (.val (.int .i64 390)))] .lf false)) .lf .lf) .lf))⟩⟩
theorem ra7_ok : Calls2 Try.prog ra7.f ra7.args ra7.n ra7.m ra7.q := chk_ok (fuel := 600) tabOk ztOk qtOk mtOk (known_sums smsOk) noGor mixed (by decide +kernel)
end Go.Proofs.Ytdkneonokbakjaa.Eng

namespace Go.Proofs.Ytdkneonokbakjaa.Eng
open Go.RowKit
set_option maxRecDepth 100000
def ra8 : Ent := ⟨34, [(.agg [(.d (.val (.int .i64 3000))), (.d (.val (.int .i64 1500))), (.d (.val (.int .i64 10))), (.d (.val (.int .i64 540000))), (.d (.val (.int .i64 720000)))]), (.sl 4 0 5 (some 5)), (.sl 3009 0 3 (some 3))], 3010, (.nd none (.nd none .lf (.nd none (.nd none (.nd none (.nd none (.nd none .lf (.nd none .lf (.nd none .lf (.nd none .lf (.nd none (.nd (some (.bx none 2 3 [(.d (.val (.int .i64 3000))), (.d (.val (.int .i64 2800))), (.d (.val (.int .i64 2000)))] .lf false)) .lf .lf) .lf))))) .lf) .lf) .lf) .lf)) (.nd none (.nd (some (.bx none 2 5 [(.d (.val (.int .i64 200))), (.d (.val (.int .i64 250))), (.d (.val (.int .i64 260))), (.d (.val (.int .i64 300))), (.d (.val (.int .i64 390)))] .lf false)) .lf .lf) .lf)), ⟨(.d (.val (.int .i64 14))), 3061, (.nd none (.nd none .lf (.nd none (.nd none (.nd none (.nd none (.nd none .lf (.nd none .lf (.nd none .lf (.nd none .lf (.nd none (.nd (some (.bx none 2 3 [(.d (.val (.int .i64 3000))), (.d (.val (.int .i64 2800))), (.d (.val (.int .i64 2000)))] .lf false)) .lf .lf) .lf))))) .lf) .lf) .lf) .lf)) (.nd none (.nd (some (.bx none 2 5 [(.d (.val (.int .i64 200))), (.d (.val (.int .i64 250))), (.d (.val (.int .i64 260))), (.d (.val (.int .i64 300))), (.d (.val (.int .i64 390)))] .lf false)) .lf .lf) .lf))⟩⟩
theorem ra8_ok : Calls2 Try.prog ra8.f ra8.args ra8.n ra8.m ra8.q := chk_ok (fuel := 600) tabOk ztOk qtOk mtOk (known_sums smsOk) noGor mixed (by decide +kernel)
end Go.Proofs.Ytdkneonokbakjaa.Eng

namespace Go.Proofs.Ytdkneonokbakjaa.Eng
open Go.RowKit
set_option maxRecDepth 100000
def ra9 : Ent := ⟨36, [(.agg [(.d (.val (.int .i64 3000))), (.d (.val (.int .i64 1500))), (.d (.val (.int .i64 10))), (.d (.val (.int .i64 540000))), (.d (.val (.int .i64 720000)))]), (.sl 4 0 5 (some 5)), (.d (.val (.int .i64 2)))], 3061, (.nd none .lf (.nd none (.nd (some (.bx none 2 5 [(.d (.val (.int .i64 200))), (.d (.val (.int .i64 250))), (.d (.val (.int .i64 260))), (.d (.val (.int .i64 300))), (.d (.val (.int .i64 390)))] .lf false)) .lf .lf) .lf)), ⟨(.tup [(.d (.val (.int .i64 2087))), (.d (.val (.int .i64 0)))]), 4083, (.nd none .lf (.nd none (.nd (some (.bx none 2 5 [(.d (.val (.int .i64 200))), (.d (.val (.int .i64 250))), (.d (.val (.int .i64 260))), (.d (.val (.int .i64 300))), (.d (.val (.int .i64 390)))] .lf false)) .lf .lf) .lf))⟩⟩
theorem ra9_ok : Calls2 Try.prog ra9.f ra9.args ra9.n ra9.m ra9.q := chk_ok (fuel := 600) tabOk ztOk qtOk mtOk (known_sums smsOk) noGor mixed (by decide +kernel)
end Go.Proofs.Ytdkneonokbakjaa.Eng

namespace Go.Proofs.Ytdkneonokbakjaa.Eng
open Go.RowKit
set_option maxRecDepth 100000
def ra10 : Ent := ⟨38, [(.agg [(.d (.val (.int .i64 3000))), (.d (.val (.int .i64 1500))), (.d (.val (.int .i64 10))), (.d (.val (.int .i64 540000))), (.d (.val (.int .i64 720000)))]), (.sl 4 0 5 (some 5))], 4083, (.nd none .lf (.nd none (.nd (some (.bx none 2 5 [(.d (.val (.int .i64 200))), (.d (.val (.int .i64 250))), (.d (.val (.int .i64 260))), (.d (.val (.int .i64 300))), (.d (.val (.int .i64 390)))] .lf false)) .lf .lf) .lf)), ⟨(.tup [(.sl 14333 0 5 (some 5)), (.d (.val (.int .i64 0)))]), 14335, (.nd none (.nd none .lf (.nd none .lf (.nd none .lf (.nd none .lf (.nd none .lf (.nd none .lf (.nd none .lf (.nd none .lf (.nd none .lf (.nd none .lf (.nd none (.nd none .lf (.nd (some (.bx none 3 5 [(.d (.val (.int .i64 0)))] (.nd (some (.d (.val (.int .i64 2)))) (.nd (some (.d (.val (.int .i64 1)))) (.nd (some (.d (.val (.int .i64 2)))) .lf .lf) .lf) (.nd (some (.d (.val (.int .i64 1)))) (.nd (some (.d (.val (.int .i64 2)))) .lf .lf) .lf)) false)) .lf .lf)) .lf))))))))))) (.nd none (.nd (some (.bx none 2 5 [(.d (.val (.int .i64 200))), (.d (.val (.int .i64 250))), (.d (.val (.int .i64 260))), (.d (.val (.int .i64 300))), (.d (.val (.int .i64 390)))] .lf false)) .lf .lf) .lf))⟩⟩
theorem ra10_ok : Calls2 Try.prog ra10.f ra10.args ra10.n ra10.m ra10.q := chk_ok (fuel := 600) tabOk ztOk qtOk mtOk (known_sums smsOk) noGor mixed (by decide +kernel)
end Go.Proofs.Ytdkneonokbakjaa.Eng

noncomputable section
namespace Go.Proofs.Ytdkneonokbakjaa.Eng
open Go.RowKit
set_option maxRecDepth 100000
def raK : Known := ⟨[ra1, ra2, ra3, ra4, ra5, ra6, ra7, ra8, ra9, ra10], [], SMS⟩
theorem raK_ok : KnownOk Try.prog raK := (known_ent ra1_ok (known_ent ra2_ok (known_ent ra3_ok (known_ent ra4_ok (known_ent ra5_ok (known_ent ra6_ok (known_ent ra7_ok (known_ent ra8_ok (known_ent ra9_ok (known_ent ra10_ok (known_sums smsOk)))))))))))
theorem works_call : ACall Try.prog 17 [] (.val (.bool true)) := closed_call (n := 600) tabOk ztOk qtOk mtOk raK_ok noGor mixed (chkV_ok (by decide +kernel))
end Go.Proofs.Ytdkneonokbakjaa.Eng

noncomputable section
namespace Go.Proofs.Ytdkneonokbakjaa.Eng
open Go.RowKit
set_option maxRecDepth 100000
set_option maxHeartbeats 16000000
theorem many_c (ps : List Int) : ACall Try.prog 16 [intL ps] (bD (decide (20 < ps.length))) := by
  by_cases h : 20 < ps.length
  · have hi : (20 : Int) < ps.length := by omega
    rw [decide_eq_true h]
    refine acallK tabOk Try.func16 rfl rfl (show 1 ≤ _ by decide) rfl fun _ => ?_; simp only [Try.ntmps16]
    repeat (first | (with_reducible first | refine zq1 fun _ => ?_ | refine zq2 fun _ => ?_ | refine zq3 ?_) | ((first | refine zq4 ?_ | refine zq5 fun _ _ => ?_ | refine zq6 ?_); simp [-getElem?_pos, z0, z1, z2, h, hi]) | ((first | refine AWp.ret ?_ | refine AWp.skip ?_ | refine AWp.exit ?_); try simp only [thenP]) | (with_reducible refine zq7 ?_; simp only [blockP, thenP, reduceIte]) | with_reducible refine zq8 ?_)
    (first | refine RR.ret ?_ | refine RR.normal ?_); simp [z0]
  · have hi : ¬ (20 : Int) < ps.length := by omega
    rw [decide_eq_false h]
    refine acallK tabOk Try.func16 rfl rfl (show 1 ≤ _ by decide) rfl fun _ => ?_; simp only [Try.ntmps16]
    repeat (first | (with_reducible first | refine zq1 fun _ => ?_ | refine zq2 fun _ => ?_ | refine zq3 ?_) | ((first | refine zq4 ?_ | refine zq5 fun _ _ => ?_ | refine zq6 ?_); simp [-getElem?_pos, z0, z1, z2, h, hi]) | ((first | refine AWp.ret ?_ | refine AWp.skip ?_ | refine AWp.exit ?_); try simp only [thenP]) | (with_reducible refine zq7 ?_; simp only [blockP, thenP, reduceIte]) | with_reducible refine zq8 ?_)
    (first | refine RR.ret ?_ | refine RR.normal ?_); simp [z0]
end Go.Proofs.Ytdkneonokbakjaa.Eng

noncomputable section
namespace Go.Proofs.Ytdkneonokbakjaa.Eng
open Go.RowKit
set_option maxRecDepth 100000
set_option maxHeartbeats 16000000
theorem rimPlans_c (s : RS) (ps : List Int) (l : List (Int × Int)) : ACall Try.prog 4 [stoD s, intL ps, runsD l] (bD true) := by
  have cm := many_c ps
  have cw := works_call
  by_cases g : 20 < ps.length
  · rw [decide_eq_true g] at cm
    refine acallK tabOk Try.func4 rfl rfl (show 3 ≤ _ by decide) rfl fun _ => ?_; simp only [Try.ntmps4]
    repeat (first | (with_reducible first | refine zq1 fun _ => ?_ | refine zq2 fun _ => ?_ | refine zq3 ?_) | ((first | refine zq4 ?_ | refine zq5 fun _ _ => ?_ | refine zq6 ?_); simp [-getElem?_pos, z0, z1, z2, z0]) | ((first | refine AWp.ret ?_ | refine AWp.skip ?_ | refine AWp.exit ?_); try simp only [thenP]) | (with_reducible refine zq7 ?_; simp only [blockP, thenP, reduceIte]) | with_reducible refine zq8 ?_)
    (first | refine Exec0.call [] cm ?_ rfl ?_ ?_ | refine Exec.call [] cm ?_ rfl ?_ ?_); (focus simp [-getElem?_pos, z0]); (focus simp [-getElem?_pos, z0, z1, z2, z0]); simp [-getElem?_pos, z0, z1, z2, z0]
    repeat (first | (with_reducible first | refine zq1 fun _ => ?_ | refine zq2 fun _ => ?_ | refine zq3 ?_) | ((first | refine zq4 ?_ | refine zq5 fun _ _ => ?_ | refine zq6 ?_); simp [-getElem?_pos, z0, z1, z2, z0]) | ((first | refine AWp.ret ?_ | refine AWp.skip ?_ | refine AWp.exit ?_); try simp only [thenP]) | (with_reducible refine zq7 ?_; simp only [blockP, thenP, reduceIte]) | with_reducible refine zq8 ?_)
    (first | refine Exec0.call [] cw ?_ rfl ?_ ?_ | refine Exec.call [] cw ?_ rfl ?_ ?_); (focus simp [-getElem?_pos, z0]); (focus simp [-getElem?_pos, z0, z1, z2, z0]); simp [-getElem?_pos, z0, z1, z2, z0]
    repeat (first | (with_reducible first | refine zq1 fun _ => ?_ | refine zq2 fun _ => ?_ | refine zq3 ?_) | ((first | refine zq4 ?_ | refine zq5 fun _ _ => ?_ | refine zq6 ?_); simp [-getElem?_pos, z0, z1, z2, z0]) | ((first | refine AWp.ret ?_ | refine AWp.skip ?_ | refine AWp.exit ?_); try simp only [thenP]) | (with_reducible refine zq7 ?_; simp only [blockP, thenP, reduceIte]) | with_reducible refine zq8 ?_)
    (first | refine RR.ret ?_ | refine RR.normal ?_); simp [z0]
  rw [decide_eq_false g] at cm
  have hl : ps.length ≤ 1000000 := by omega
  by_cases g2 : 30 < l.length
  · have g2i : (30 : Int) < l.length := by omega
    refine acallK tabOk Try.func4 rfl rfl (show 3 ≤ _ by decide) rfl fun _ => ?_; simp only [Try.ntmps4]
    repeat (first | (with_reducible first | refine zq1 fun _ => ?_ | refine zq2 fun _ => ?_ | refine zq3 ?_) | ((first | refine zq4 ?_ | refine zq5 fun _ _ => ?_ | refine zq6 ?_); simp [-getElem?_pos, z0, z1, z2, g2, g2i]) | ((first | refine AWp.ret ?_ | refine AWp.skip ?_ | refine AWp.exit ?_); try simp only [thenP]) | (with_reducible refine zq7 ?_; simp only [blockP, thenP, reduceIte]) | with_reducible refine zq8 ?_)
    (first | refine Exec0.call [] cm ?_ rfl ?_ ?_ | refine Exec.call [] cm ?_ rfl ?_ ?_); (focus simp [-getElem?_pos, g2, g2i]); (focus simp [-getElem?_pos, z0, z1, z2, g2, g2i]); simp [-getElem?_pos, z0, z1, z2, g2, g2i]
    repeat (first | (with_reducible first | refine zq1 fun _ => ?_ | refine zq2 fun _ => ?_ | refine zq3 ?_) | ((first | refine zq4 ?_ | refine zq5 fun _ _ => ?_ | refine zq6 ?_); simp [-getElem?_pos, z0, z1, z2, g2, g2i]) | ((first | refine AWp.ret ?_ | refine AWp.skip ?_ | refine AWp.exit ?_); try simp only [thenP]) | (with_reducible refine zq7 ?_; simp only [blockP, thenP, reduceIte]) | with_reducible refine zq8 ?_)
    (first | refine Exec0.call [] cw ?_ rfl ?_ ?_ | refine Exec.call [] cw ?_ rfl ?_ ?_); (focus simp [-getElem?_pos, z0]); (focus simp [-getElem?_pos, z0, z1, z2, z0]); simp [-getElem?_pos, z0, z1, z2, z0]
    repeat (first | (with_reducible first | refine zq1 fun _ => ?_ | refine zq2 fun _ => ?_ | refine zq3 ?_) | ((first | refine zq4 ?_ | refine zq5 fun _ _ => ?_ | refine zq6 ?_); simp [-getElem?_pos, z0, z1, z2, z0]) | ((first | refine AWp.ret ?_ | refine AWp.skip ?_ | refine AWp.exit ?_); try simp only [thenP]) | (with_reducible refine zq7 ?_; simp only [blockP, thenP, reduceIte]) | with_reducible refine zq8 ?_)
    (first | refine RR.ret ?_ | refine RR.normal ?_); simp [z0]
  have g2i : ¬ (30 : Int) < l.length := by omega
  have hll : l.length ≤ 1000000 := by omega
  have c1 := checkPlan_c s ps hl l hll
  have c2 := refCheckPlan_c s ps hl l hll
  have c3 := speeds_c s ps hl l hll
  have c4 := refSpeeds_c s ps hl l hll
  generalize cplE s ps l = e1 at *
  generalize speV s ps l = v1 at *
  obtain ⟨x, y⟩ := v1
  refine acallK tabOk Try.func4 rfl rfl (show 3 ≤ _ by decide) rfl fun _ => ?_; simp only [Try.ntmps4]
  repeat (first | (with_reducible first | refine zq1 fun _ => ?_ | refine zq2 fun _ => ?_ | refine zq3 ?_) | ((first | refine zq4 ?_ | refine zq5 fun _ _ => ?_ | refine zq6 ?_); simp [-getElem?_pos, z0, z1, z2, g2, g2i]) | ((first | refine AWp.ret ?_ | refine AWp.skip ?_ | refine AWp.exit ?_); try simp only [thenP]) | (with_reducible refine zq7 ?_; simp only [blockP, thenP, reduceIte]) | with_reducible refine zq8 ?_)
  (first | refine Exec0.call [] cm ?_ rfl ?_ ?_ | refine Exec.call [] cm ?_ rfl ?_ ?_); (focus simp [-getElem?_pos, g2, g2i]); (focus simp [-getElem?_pos, z0, z1, z2, g2, g2i]); simp [-getElem?_pos, z0, z1, z2, g2, g2i]
  repeat (first | (with_reducible first | refine zq1 fun _ => ?_ | refine zq2 fun _ => ?_ | refine zq3 ?_) | ((first | refine zq4 ?_ | refine zq5 fun _ _ => ?_ | refine zq6 ?_); simp [-getElem?_pos, z0, z1, z2, g2, g2i]) | ((first | refine AWp.ret ?_ | refine AWp.skip ?_ | refine AWp.exit ?_); try simp only [thenP]) | (with_reducible refine zq7 ?_; simp only [blockP, thenP, reduceIte]) | with_reducible refine zq8 ?_)
  (first | refine Exec0.call [] c3 ?_ rfl ?_ ?_ | refine Exec.call [] c3 ?_ rfl ?_ ?_); (focus simp [-getElem?_pos, z0]); (focus simp [-getElem?_pos, z0, z1, z2, z0]); simp [-getElem?_pos, z0, z1, z2, z0]
  repeat (first | (with_reducible first | refine zq1 fun _ => ?_ | refine zq2 fun _ => ?_ | refine zq3 ?_) | ((first | refine zq4 ?_ | refine zq5 fun _ _ => ?_ | refine zq6 ?_); simp [-getElem?_pos, z0, z1, z2, z0]) | ((first | refine AWp.ret ?_ | refine AWp.skip ?_ | refine AWp.exit ?_); try simp only [thenP]) | (with_reducible refine zq7 ?_; simp only [blockP, thenP, reduceIte]) | with_reducible refine zq8 ?_)
  (first | refine Exec0.call [] c4 ?_ rfl ?_ ?_ | refine Exec.call [] c4 ?_ rfl ?_ ?_); (focus simp [-getElem?_pos, z0]); (focus simp [-getElem?_pos, z0, z1, z2, z0]); simp [-getElem?_pos, z0, z1, z2, z0]
  repeat (first | (with_reducible first | refine zq1 fun _ => ?_ | refine zq2 fun _ => ?_ | refine zq3 ?_) | ((first | refine zq4 ?_ | refine zq5 fun _ _ => ?_ | refine zq6 ?_); simp [-getElem?_pos, z0, z1, z2, z0]) | ((first | refine AWp.ret ?_ | refine AWp.skip ?_ | refine AWp.exit ?_); try simp only [thenP]) | (with_reducible refine zq7 ?_; simp only [blockP, thenP, reduceIte]) | with_reducible refine zq8 ?_)
  (first | refine Exec0.call [] c1 ?_ rfl ?_ ?_ | refine Exec.call [] c1 ?_ rfl ?_ ?_); (focus simp [-getElem?_pos, z0]); (focus simp [-getElem?_pos, z0, z1, z2, z0]); simp [-getElem?_pos, z0, z1, z2, z0]
  repeat (first | (with_reducible first | refine zq1 fun _ => ?_ | refine zq2 fun _ => ?_ | refine zq3 ?_) | ((first | refine zq4 ?_ | refine zq5 fun _ _ => ?_ | refine zq6 ?_); simp [-getElem?_pos, z0, z1, z2, z0]) | ((first | refine AWp.ret ?_ | refine AWp.skip ?_ | refine AWp.exit ?_); try simp only [thenP]) | (with_reducible refine zq7 ?_; simp only [blockP, thenP, reduceIte]) | with_reducible refine zq8 ?_)
  (first | refine Exec0.call [] c2 ?_ rfl ?_ ?_ | refine Exec.call [] c2 ?_ rfl ?_ ?_); (focus simp [-getElem?_pos, z0]); (focus simp [-getElem?_pos, z0, z1, z2, z0]); simp [-getElem?_pos, z0, z1, z2, z0]
  repeat (first | (with_reducible first | refine zq1 fun _ => ?_ | refine zq2 fun _ => ?_ | refine zq3 ?_) | ((first | refine zq4 ?_ | refine zq5 fun _ _ => ?_ | refine zq6 ?_); simp [-getElem?_pos, z0, z1, z2, z0]) | ((first | refine AWp.ret ?_ | refine AWp.skip ?_ | refine AWp.exit ?_); try simp only [thenP]) | (with_reducible refine zq7 ?_; simp only [blockP, thenP, reduceIte]) | with_reducible refine zq8 ?_)
  (first | refine Exec0.call [] cw ?_ rfl ?_ ?_ | refine Exec.call [] cw ?_ rfl ?_ ?_); (focus simp [-getElem?_pos, z0]); (focus simp [-getElem?_pos, z0, z1, z2, z0]); simp [-getElem?_pos, z0, z1, z2, z0]
  repeat (first | (with_reducible first | refine zq1 fun _ => ?_ | refine zq2 fun _ => ?_ | refine zq3 ?_) | ((first | refine zq4 ?_ | refine zq5 fun _ _ => ?_ | refine zq6 ?_); simp [-getElem?_pos, z0, z1, z2, z0]) | ((first | refine AWp.ret ?_ | refine AWp.skip ?_ | refine AWp.exit ?_); try simp only [thenP]) | (with_reducible refine zq7 ?_; simp only [blockP, thenP, reduceIte]) | with_reducible refine zq8 ?_)
  (first | refine RR.ret ?_ | refine RR.normal ?_); simp [z0]
end Go.Proofs.Ytdkneonokbakjaa.Eng

namespace Go.Proofs.Ytdkneonokbakjaa
open Go.ChangeShapes Go.WideShapes Go.ChangeAt Go.RowKit
theorem post_later {H : Type} {enc : TypeId × Value → H} {P : Program} {f : Func} {s : ChangeSpec} {apart fresh handsOn again : Bool} {W W' : World} {args : Array Value} {v : Value} {ds gs : List (DataW H)} {before pa pv : List MemPlace}
    (hW : DataW.Whole enc P f.params.toList s.vars apart W args.toList ds gs before) (hsplit : before = pa ++ pv)
    (hr : ∀ (b : Nat) (sp : Nat → Bool) (hd : Bool), DataW.TrodAll enc P W' b sp hd f.resultTypes.toList (v.resultList f.resultTypes.size) (s.fn H (ds ++ gs)).results [])
    (ha : ∀ sp : Nat → Bool, (∀ p ∈ before, sp p.block = true) → DataW.TrodAll enc P W' 0 sp true f.params.toList args.toList (s.fn H (ds ++ gs)).args pa)
    (hv : ∀ sp : Nat → Bool, (∀ p ∈ before, sp p.block = true) → DataW.TrodVars enc P W' sp s.vars (s.fn H (ds ++ gs)).vars pv)
    (hk : ∀ (j : Nat) (t : TypeId) (r : Value), f.resultTypes[j]? = some t → (v.resultList f.resultTypes.size)[j]? = some r → Value.okWide P W' .any 0 t r)
    (hb : Below W.heap.size W W') : s.post enc P f apart fresh handsOn again W args v W' := by
  have inside : ∀ p, p ∈ before → p.block < W.heap.size := fun p hp => hW.lt p hp
  have keep : ∀ p ∈ before, (decide ((p : MemPlace).block < W.heap.size)) = true := fun p hp => decide_eq_true (inside p hp)
  refine ⟨ds, gs, before, [], pa, pv, hW, hr _ _ _, ha (fun b => decide (b < W.heap.size)) keep, hv (fun b => decide (b < W.heap.size)) keep, ?_, ?_⟩
  · refine World.keptBut_mono (fun p hp => ⟨hp, ?_⟩) (hb.frame (· ∈ before))
    right
    rw [hsplit, List.mem_append] at hp
    exact hp
  · intro _
    obtain ⟨_, _, _, _, _, hz, hn⟩ := hW
    have e : [] ++ pa ++ pv = before := by rw [hsplit, List.nil_append]
    refine ⟨hk, _, _, [] ++ pa ++ pv, ⟨[] ++ pa, pv, trodAll_append (ha _ fun _ _ => rfl) (hr _ _ _), hv _ fun _ _ => rfl, rfl, fun b off hp => ?_, fun h => ?_⟩, fun p hp _ => ?_⟩
    · rw [e] at hp
      rw [hb.frozen (inside _ hp)]
      exact hz b off hp
    · have := hn h
      rw [← e] at this
      simpa using this
    · rw [e] at hp
      simpa using hp
end Go.Proofs.Ytdkneonokbakjaa

namespace Go.Proofs.Ytdkneonokbakjaa.Eng
open Go.ChangeShapes Go.WideShapes Go.ChangeAt Go.RowKit Go.Deep
inductive Sh where
  | int (k : IntKind)
  | bool
  | nil
  | cons (s r : Sh)
  | sl (s : Sh)
  | arr (n : Nat) (s : Sh)
def Sh.size : Sh → Nat
  | .int _ => 1
  | .bool => 1
  | .nil => 0
  | .cons s r => s.size + r.size
  | .sl _ => 1
  | .arr n s => n * s.size
def Sh.Row : Sh → List Dat → Prop
  | .int k, r => ∃ n, r = [.val (.int k n)] ∧ (Lit.int k n).wf = true
  | .bool, r => ∃ b, r = [.val (.bool b)]
  | .nil, r => r = []
  | .cons s t, r => ∃ a b, r = a ++ b ∧ s.Row a ∧ t.Row b
  | .sl s, r => ∃ rows : List (List Dat), r = [.list rows] ∧ ∀ x ∈ rows, s.Row x
  | .arr n s, r => ∃ rows : List (List Dat), rows.length = n ∧ r = rows.flatten ∧ ∀ x ∈ rows, s.Row x
theorem Sh.Row.len : ∀ {s : Sh} {r : List Dat}, s.Row r → r.length = s.size
  | .int k, _, ⟨n, h, _⟩ => by rw [h]; rfl
  | .bool, _, ⟨b, h⟩ => by rw [h]; rfl
  | .nil, _, h => by rw [show _ = [] from h]; rfl
  | .cons s t, _, ⟨a, b, h, ha, hb⟩ => by rw [h, List.length_append, Sh.Row.len ha, Sh.Row.len hb]; rfl
  | .sl s, _, ⟨rows, h, _⟩ => by rw [h]; rfl
  | .arr n s, _, ⟨rows, h1, h2, h3⟩ => by
    rw [h2, List.length_flatten]
    have : ∀ l : List (List Dat), (∀ x ∈ l, s.Row x) → (l.map List.length).sum = l.length * s.size := by
      intro l
      induction l with
      | nil => intro _; simp
      | cons x l ih =>
        intro h
        rw [List.map_cons, List.sum_cons, ih fun y hy => h y (List.mem_cons_of_mem _ hy), Sh.Row.len (h x List.mem_cons_self), List.length_cons, Nat.add_mul, Nat.one_mul, Nat.add_comm]
    rw [this rows h3, h1]
    rfl
theorem Sh.Row.one : ∀ {s : Sh} {r : List Dat}, s.Row r → ∀ c ∈ r, c.one = true
  | .int k, _, ⟨n, h, _⟩, c, hc => by subst h; simp at hc; subst hc; rfl
  | .bool, _, ⟨b, h⟩, c, hc => by subst h; simp at hc; subst hc; rfl
  | .nil, _, h, c, hc => by rw [show _ = [] from h] at hc; simp at hc
  | .cons s t, _, ⟨a, b, h, ha, hb⟩, c, hc => by
    subst h
    rcases List.mem_append.1 hc with hc | hc
    · exact Sh.Row.one ha c hc
    · exact Sh.Row.one hb c hc
  | .sl s, _, ⟨rows, h, _⟩, c, hc => by subst h; simp at hc; subst hc; rfl
  | .arr n s, _, ⟨rows, h1, h2, h3⟩, c, hc => by
    subst h2
    obtain ⟨x, hx, hcx⟩ := List.mem_flatten.1 hc
    exact Sh.Row.one (h3 x hx) c hcx
def Sh.flds (P : Program) (ok : Sh → TypeId → Bool) : Sh → List Field → Nat → Bool
  | .nil, [], _ => true
  | .cons s r, f :: fs, o => f.offset == o && P.cellsOf f.type == s.size && ok s f.type && r.flds P ok fs (o + s.size)
  | _, _, _ => false
def Sh.okF (P : Program) : Nat → Sh → TypeId → Bool
  | 0, _, _ => false
  | n + 1, s, t => match P.underlying t with
    | some (.int k) => match s with
      | .int k' => decide (k' = k)
      | _ => false
    | some .bool => match s with
      | .bool => true
      | _ => false
    | some (.struct fs) => P.cellsOf t == s.size && s.flds P (Sh.okF P n) fs.toList 0
    | some (.slice e) => match s with
      | .sl s' => Nat.ble 1 s'.size && P.cellsOf e == s'.size && Sh.okF P n s' e
      | _ => false
    | some (.array m e) => match s with
      | .arr m' s' => m == m' && P.cellsOf e == s'.size && P.cellsOf t == m * s'.size && Sh.okF P n s' e
      | _ => false
    | _ => false
section
variable {H : Type} {enc : TypeId × Value → H} {P : Program} {w : World}
def Read (w : World) (s : Sh) (cs : List Value) : Prop := cs.length = s.size ∧ ∃ r, s.Row r ∧ ∀ (j : Nat) c u, r[j]? = some c → cs[j]? = some u → RepD (· < w.heap.size) w c u
def Opens (enc : TypeId × Value → H) (P : Program) (w : World) (s : Sh) (t : TypeId) : Prop := ∀ fuel cs x, DataW.trod enc P w 0 (fun _ => true) true fuel t cs = some x → Read w s cs
theorem read_list {α : Type} {R : Nat → α → Prop} : ∀ (n : Nat), (∀ i, i < n → ∃ x, R i x) → ∃ l : List α, l.length = n ∧ ∀ i x, l[i]? = some x → R i x
  | 0, _ => ⟨[], rfl, fun i x h => by simp at h⟩
  | n + 1, h => by
    obtain ⟨l, hl, hx⟩ := read_list n fun i hi => h i (by omega)
    obtain ⟨y, hy⟩ := h n (by omega)
    refine ⟨l ++ [y], by simp [hl], fun i x hi => ?_⟩
    rcases Nat.lt_or_ge i n with h1 | h1
    · rw [List.getElem?_append_left (by omega)] at hi
      exact hx i x hi
    · rw [List.getElem?_append_right (by omega)] at hi
      have : i = n := by
        have := (List.getElem?_eq_some_iff.1 hi).1
        simp at this
        omega
      subst this
      simp [hl] at hi
      subst hi
      exact hy
theorem opens_slice {s : Sh} {t e : TypeId} (ht : P.underlying t = some (.slice e)) (h0 : 0 < s.size) (hc : P.cellsOf e = s.size) (he : Opens enc P w s e) : Opens enc P w (.sl s) t := by
  intro fuel cs x h
  rcases open_slice ht h with ⟨h1, _⟩ | ⟨a, len, cap, m, n, D, Pl, hcs, hb, hl, hmx, hm, hx, hel⟩
  · subst h1
    refine ⟨rfl, [.list []], ⟨[], rfl, by simp⟩, fun j c u hj hu => ?_⟩
    match j with
    | 0 =>
      simp at hj hu
      subst hj; subst hu
      exact .list [] none 0 (fun _ _ => default) (by simp) (by decide) (by simp) (by simp) (by simp)
    | j + 1 => simp at hj
  · have hmc : m = cap := by simpa using hm
    obtain ⟨b, off, spot⟩ := a
    have cell : ∀ i, i < m → ∃ cs', cs'.length = s.size ∧ (∀ j u, cs'[j]? = some u → w.cell? (Addr.add ⟨b, off, spot⟩ (i * s.size + j)) = some u) ∧ Read w s cs' := by
      intro i hi
      obtain ⟨cs', h1, h2⟩ := hel i hi
      rw [hc] at h1
      obtain ⟨_, hlen, hat⟩ := World.cells?_some h1
      refine ⟨cs', hlen, fun j u hj => ?_, he _ _ _ h2⟩
      have hjl : j < s.size := by rw [← hlen]; exact (List.getElem?_eq_some_iff.1 hj).1
      rw [← Go.Deep.add_add, hat j hjl, hj]
    subst hcs
    refine ⟨rfl, ?_⟩
    rcases Nat.eq_zero_or_pos len with hm0 | hm0
    · subst hm0
      refine ⟨[.list []], ⟨[], rfl, by simp⟩, fun j c u hj hu => ?_⟩
      match j with
      | 0 =>
        simp at hj hu
        subst hj; subst hu
        exact .list [] _ cap (fun _ _ => default) (by simp) hmx (by simp) (by simp) (by simp)
      | j + 1 => simp at hj
    · have hsp : spot = none := by
        obtain ⟨cs', h1, h2, _⟩ := cell 0 (by omega)
        have h3 : cs'[0]? = some (cs'[0]'(by omega)) := List.getElem?_eq_getElem (by omega)
        have := World.cell?_spot (h2 0 _ h3)
        simpa [Addr.add] using this
      subst hsp
      have hb2 : b < w.heap.size := by
        obtain ⟨cs', h1, h2, _⟩ := cell 0 (by omega)
        have h3 : cs'[0]? = some (cs'[0]'(by omega)) := List.getElem?_eq_getElem (by omega)
        have h4 := World.block_lt_of_cell? w _ (h2 0 _ h3)
        simpa [Addr.add] using h4
      obtain ⟨rows, hrl, hrx⟩ := read_list (R := fun i (r : List Dat) => s.Row r ∧ ∀ (j : Nat) c, r[j]? = some c → ∃ u, w.cell? ⟨b, off + i * s.size + j, none⟩ = some u ∧ RepD (· < w.heap.size) w c u) len fun i hi => by
        obtain ⟨cs', h1, h2, h3, r, h4, h5⟩ := cell i (by omega)
        refine ⟨r, h4, fun j c hj => ?_⟩
        have hjl : j < s.size := by rw [← h4.len]; exact (List.getElem?_eq_some_iff.1 hj).1
        have hu : cs'[j]? = some (cs'[j]'(by omega)) := List.getElem?_eq_getElem (by omega)
        refine ⟨_, ?_, h5 j c _ hj hu⟩
        have := h2 j _ hu
        by_cases e0 : i * s.size + j = 0
        · rw [e0] at this
          rw [show off + i * s.size + j = off by omega]
          simpa [Addr.add] using this
        · simp only [Addr.add, if_neg e0] at this
          rwa [Nat.add_assoc]
      have hmem : ∀ r ∈ rows, s.Row r := fun r hr => by
        obtain ⟨i, hi⟩ := List.getElem?_of_mem hr
        exact (hrx i r hi).1
      refine ⟨[.list rows], ⟨rows, rfl, hmem⟩, fun j c u hj hu => ?_⟩
      match j with
      | 0 =>
        simp at hj hu
        subst hj; subst hu
        rw [← hrl]
        refine .list rows _ cap (fun i j => (w.cell? ⟨b, off + i * s.size + j, none⟩).getD default) (by omega) hmx (fun r hr => (hmem r hr).one) (fun _ => ⟨b, off, s.size, rfl, hb2, fun r hr => (hmem r hr).len, fun i j hi hj => ?_⟩) fun i j r c hr hc => ?_
        · have hri := hrx i _ (List.getElem?_eq_getElem hi)
          obtain ⟨u, hu, _⟩ := hri.2 j _ (List.getElem?_eq_getElem (by rw [hri.1.len]; exact hj))
          rw [hu]; rfl
        · obtain ⟨u, hu, hru⟩ := (hrx i r hr).2 j c hc
          rw [hu]; exact hru
      | j + 1 => simp at hj
theorem Read.app {s r : Sh} {a b : List Value} (ha : Read w s a) (hb : Read w r b) : Read w (.cons s r) (a ++ b) := by
  obtain ⟨h1, x, h2, h3⟩ := ha
  obtain ⟨k1, y, k2, k3⟩ := hb
  refine ⟨by rw [List.length_append, h1, k1]; rfl, x ++ y, ⟨x, y, rfl, h2, k2⟩, fun j c u hc hu => ?_⟩
  have hx := h2.len
  by_cases hj : j < x.length
  · rw [List.getElem?_append_left hj] at hc
    rw [List.getElem?_append_left (by omega)] at hu
    exact h3 j c u hc hu
  · rw [List.getElem?_append_right (by omega)] at hc
    rw [List.getElem?_append_right (by omega)] at hu
    rw [hx, ← h1] at hc
    exact k3 _ c u hc hu
theorem read_flds {ok : Sh → TypeId → Bool} {m : Nat} (hok : ∀ s t, ok s t = true → Opens enc P w s t) {cs : List Value} : ∀ (s : Sh) (fs : List Field) (o : Nat), s.flds P ok fs o = true → o + s.size = cs.length →
    (∀ f ∈ fs, ∃ y, DataW.trod enc P w 0 (fun _ => true) true m f.type ((cs.drop f.offset).take (P.cellsOf f.type)) = some y) → Read w s (cs.drop o)
  | .nil, [], o, _, hl, _ => by
    rw [List.drop_eq_nil_of_le (by simp only [Sh.size] at hl; omega)]
    exact ⟨rfl, [], rfl, by simp⟩
  | .cons s r, f :: fs, o, h, hl, hf => by
    simp only [Sh.flds, Bool.and_eq_true, beq_iff_eq] at h
    obtain ⟨⟨⟨h1, h2⟩, h3⟩, h4⟩ := h
    obtain ⟨y, hy⟩ := hf f List.mem_cons_self
    rw [h1, h2] at hy
    have k1 := hok s f.type h3 _ _ _ hy
    have k2 := read_flds hok r fs (o + s.size) h4 (by simp only [Sh.size] at hl; omega) fun g hg => hf g (List.mem_cons_of_mem _ hg)
    have := k1.app k2
    rwa [← List.drop_drop, List.take_append_drop] at this
  | .nil, _ :: _, _, h, _, _ => by simp [Sh.flds] at h
  | .cons _ _, [], _, h, _, _ => by simp [Sh.flds] at h
  | .int _, _, _, h, _, _ => by simp [Sh.flds] at h
  | .bool, _, _, h, _, _ => by simp [Sh.flds] at h
  | .sl _, _, _, h, _, _ => by simp [Sh.flds] at h
  | .arr _ _, _, _, h, _, _ => by simp [Sh.flds] at h
theorem read_arr {s : Sh} : ∀ (n : Nat) (cs : List Value), cs.length = n * s.size → (∀ i, i < n → Read w s ((cs.drop (i * s.size)).take s.size)) → Read w (.arr n s) cs
  | 0, cs, hl, _ => by
    have : cs = [] := List.eq_nil_of_length_eq_zero (by rw [hl, Nat.zero_mul])
    subst this
    exact ⟨by simp [Sh.size], [], ⟨[], rfl, rfl, by simp⟩, by simp⟩
  | n + 1, cs, hl, h => by
    have h0 := h 0 (by omega)
    rw [Nat.zero_mul, List.drop_zero] at h0
    have h1 := read_arr (s := s) n (cs.drop s.size) (by rw [List.length_drop, hl, Nat.add_mul]; omega) fun i hi => by
      have := h (i + 1) (by omega)
      rw [List.drop_drop]
      rwa [Nat.add_mul, Nat.one_mul, Nat.add_comm] at this
    obtain ⟨a1, a, a2, a3⟩ := h0
    obtain ⟨b1, b, ⟨rows, b2, b3, b4⟩, b5⟩ := h1
    refine ⟨hl, a ++ b, ⟨a :: rows, by simp [b2], by simp [b3], fun x hx => ?_⟩, fun j c u hc hu => ?_⟩
    · rcases List.mem_cons.1 hx with rfl | hx
      · exact a2
      · exact b4 x hx
    · have hx := a2.len
      rw [← List.take_append_drop s.size cs] at hu
      by_cases hj : j < a.length
      · rw [List.getElem?_append_left hj] at hc
        rw [List.getElem?_append_left (by omega)] at hu
        exact a3 j c u hc hu
      · rw [List.getElem?_append_right (by omega)] at hc
        rw [List.getElem?_append_right (by omega)] at hu
        rw [hx, ← a1] at hc
        exact b5 _ c u hc hu
theorem okF_opens : ∀ (n : Nat) (s : Sh) (t : TypeId), s.okF P n t = true → Opens enc P w s t
  | 0, s, t, h => by simp [Sh.okF] at h
  | n + 1, s, t, h => by
    unfold Sh.okF at h
    split at h
    · rename_i k hu
      split at h
      · rename_i k'
        obtain rfl := of_decide_eq_true h
        intro fuel cs x hx
        obtain ⟨m, rfl, _, hw⟩ := DataW.trod_int hu hx
        refine ⟨rfl, _, ⟨m, rfl, hw⟩, fun j c u hc hu => ?_⟩
        match j with
        | 0 => simp at hc hu; subst hc; subst hu; exact .val _ rfl
        | j + 1 => simp at hc
      · cases h
    · rename_i hu
      split at h
      · intro fuel cs x hx
        obtain ⟨m, rfl, _⟩ := DataW.trod_bool hu hx
        refine ⟨rfl, _, ⟨m, rfl⟩, fun j c u hc hu => ?_⟩
        match j with
        | 0 => simp at hc hu; subst hc; subst hu; exact .val _ rfl
        | j + 1 => simp at hc
      · cases h
    · rename_i fs hu
      simp only [Bool.and_eq_true, beq_iff_eq] at h
      intro fuel cs x hx
      obtain ⟨xs, m, _, _, hl, hxl, hf⟩ := DataW.trod_struct hu hx
      have := read_flds (okF_opens n) s fs.toList 0 h.2 (by rw [hl, h.1]; omega) (m := m) (cs := cs) fun f hf' => by
        obtain ⟨i, hi⟩ := List.getElem?_of_mem hf'
        have hi2 : fs[i]? = some f := by simpa using hi
        have hlt : i < fs.size := (Array.getElem?_eq_some_iff.1 hi2).1
        exact ⟨_, (hf i f hi2).trans (List.getElem?_eq_getElem (by omega))⟩
      rwa [List.drop_zero] at this
    · rename_i e hu
      split at h
      · rename_i s'
        simp only [Bool.and_eq_true, beq_iff_eq] at h
        exact opens_slice hu (Nat.le_of_ble_eq_true h.1.1) h.1.2 (okF_opens n s' e h.2)
      · cases h
    · rename_i m e hu
      split at h
      · rename_i m' s'
        simp only [Bool.and_eq_true, beq_iff_eq] at h
        obtain ⟨⟨⟨rfl, h2⟩, h3⟩, h4⟩ := h
        intro fuel cs x hx
        obtain ⟨xs, k, _, _, hl, hxl, hf⟩ := DataW.trod_array hu hx
        refine read_arr m cs (by rw [hl, h3]) fun i hi => ?_
        have := hf i hi
        rw [List.getElem?_eq_getElem (by omega), h2] at this
        exact okF_opens n s' e h4 _ _ _ this
      · cases h
    · cases h
def Sh.D : Sh → Dat → Prop
  | .int k, d => ∃ n, d = .val (.int k n) ∧ (Lit.int k n).wf = true
  | .bool, d => ∃ b, d = .val (.bool b)
  | .sl s, d => ∃ rows : List (List Dat), d = .list rows ∧ ∀ x ∈ rows, s.Row x
  | s, d => ∃ r, d = .agg r ∧ s.Row r
set_option maxRecDepth 100000 in
theorem open_sh (s : Sh) {n : Nat} {base : Nat} {t : TypeId} {v : Value} {d : DataW H} {p : List MemPlace} (hs : s.okF P n t = true) (hv : Value.okWide P w .any base t v) (h : DataW.Trod enc P w 0 (fun _ => true) true t v d p) :
    ∃ D, s.D D ∧ RepD (· < w.heap.size) w D v := by
  obtain ⟨fuel, hf⟩ := h
  have key := okF_opens (enc := enc) (w := w) n s t hs _ _ _ hf
  cases n with
  | zero => simp [Sh.okF] at hs
  | succ n =>
    unfold Sh.okF at hs
    have agg : ∀ cs, v = .agg cs → (s.D = fun d => ∃ r, d = .agg r ∧ s.Row r) → ∃ D, s.D D ∧ RepD (· < w.heap.size) w D v := fun ⟨cs⟩ e hD => by
      subst e
      obtain ⟨k1, r, k2, k3⟩ := key
      refine ⟨.agg r, by rw [hD]; exact ⟨r, rfl, k2⟩, .agg r _ ?_ k2.one fun i c u hc hu => k3 i c u hc (show cs[i]? = some u by simpa using hu)⟩
      rw [k2.len, ← k1]
      rfl
    split at hs
    · rename_i k hu
      split at hs
      · obtain ⟨m, rfl⟩ := okWide_int hu hv
        obtain ⟨k1, r, ⟨m', rfl, hw⟩, k3⟩ := key
        have := k3 0 _ _ rfl rfl
        exact ⟨_, ⟨m', rfl, hw⟩, this⟩
      · cases hs
    · rename_i hu
      split at hs
      · obtain ⟨m, rfl⟩ := okWide_bool hu hv
        obtain ⟨k1, r, ⟨m', rfl⟩, k3⟩ := key
        exact ⟨_, ⟨m', rfl⟩, k3 0 _ _ rfl rfl⟩
      · cases hs
    · rename_i fs hu
      obtain ⟨cs, e, _⟩ := okWide_struct hu hv
      simp only [Bool.and_eq_true] at hs
      refine agg cs e ?_
      cases s with
      | nil => rfl
      | cons => rfl
      | _ => simp [Sh.flds] at hs
    · rename_i e hu
      split at hs
      · obtain ⟨a, l, c, rfl⟩ := okWide_slice hu hv
        obtain ⟨k1, r, ⟨rows, rfl, hw⟩, k3⟩ := key
        exact ⟨_, ⟨rows, rfl, hw⟩, k3 0 _ _ rfl rfl⟩
      · cases hs
    · rename_i m e hu
      simp only [Value.okWide, hu] at hv
      obtain ⟨cs, e1, _⟩ := hv
      split at hs
      · exact agg cs e1 rfl
      · cases hs
    · cases hs
end
theorem args_later' {H : Type} {enc : TypeId × Value → H} {P : Program} {W W' : World} {T : TypeId → Prop} (K : Kids P T) (hz : ∀ t e, T t → P.underlying t = some (.slice e) → 0 < P.cellsOf e) {ts : List TypeId} {vs : List Value} {ds : List (DataW H)} {ps : List MemPlace}
    (hT : ∀ t ∈ ts, T t) (h : DataW.TrodAll enc P W 0 (fun _ => true) true ts vs ds ps) (hb : Below W.heap.size W W') {sp : Nat → Bool} (hs : ∀ p ∈ ps, sp p.block = true) : DataW.TrodAll enc P W' 0 sp true ts vs ds ps := by
  have carry : ∀ {ts : List TypeId} {vs : List Value} {ds : List (DataW H)} {ps : List MemPlace}, DataW.TrodAll enc P W 0 (fun _ => true) true ts vs ds ps → DataW.TrodAll enc P W' 0 (fun _ => true) true ts vs ds ps := by
    intro ts
    induction ts with
    | nil =>
      intro vs ds ps h
      obtain ⟨rfl, rfl, rfl⟩ := trodAll_nil h
      rfl
    | cons t ts ih =>
      intro vs ds ps h
      obtain ⟨v, vs1, d, ds1, a, b, rfl, rfl, rfl, ⟨n, h1⟩, h2⟩ := trodAll_cons h
      refine ⟨a, b, ⟨n, DataW.trod_carry n _ _ _ h1 fun p hp => ?_⟩, ih h2, rfl⟩
      have hlt := DataW.trod_lt n _ _ _ h1 p hp
      cases p with
      | cell bl off => exact hb.cell (p := ⟨bl, off, none⟩) hlt
      | map bl => exact hb.block bl hlt
  exact (carry h).respare K hz hT hs
theorem rows_of {α : Type} {f : α → List Dat} : ∀ {rows : List (List Dat)}, (∀ x ∈ rows, ∃ a, x = f a) → ∃ l : List α, rows = l.map f
  | [], _ => ⟨[], rfl⟩
  | x :: rows, h => by
    obtain ⟨a, rfl⟩ := h x List.mem_cons_self
    obtain ⟨l, rfl⟩ := rows_of fun y hy => h y (List.mem_cons_of_mem _ hy)
    exact ⟨a :: l, rfl⟩
theorem ints_in {d : Dat} (h : (Sh.sl (.int .i64)).D d) : ∃ l : List Int, d = .list (l.map fun x => [.val (.int .i64 x)]) := by
  obtain ⟨rows, rfl, h⟩ := h
  obtain ⟨l, rfl⟩ := rows_of (f := fun x : Int => [.val (.int .i64 x)]) fun x hx => by
    obtain ⟨n, rfl, _⟩ := h x hx
    exact ⟨n, rfl⟩
  exact ⟨l, rfl⟩
theorem law_true {P : Program} {f : FuncId} {ds : List Dat} (h : ACall P f ds (.val (.bool true))) {W : World} {vs : Array Value} (hs : vs.size = ds.length) (hr : ∀ (i : Nat) d v, ds[i]? = some d → vs[i]? = some v → RepD (· < W.heap.size) W d v) :
    Calls P f vs W fun e w' => e = .returned (.bool true) ∧ Below W.heap.size W w' := by
  refine (h.calls (· < W.heap.size) W vs (fun _ h => h) hs hr).mono ?_
  rintro e w' ⟨v, rfl, hb, hv⟩
  cases hv
  exact ⟨rfl, hb⟩
theorem reps_nil {W : World} : ∀ (i : Nat) d v, ([] : List Dat)[i]? = some d → (#[] : Array Value)[i]? = some v → RepD (· < W.heap.size) W d v := fun i d v h => by simp at h
theorem reps_cons {W : World} {D : Dat} {ds : List Dat} {v : Value} {vs : List Value} (h : RepD (· < W.heap.size) W D v) (hr : ∀ (i : Nat) d v, ds[i]? = some d → (vs.toArray)[i]? = some v → RepD (· < W.heap.size) W d v) :
    ∀ (i : Nat) d u, (D :: ds)[i]? = some d → ((v :: vs).toArray)[i]? = some u → RepD (· < W.heap.size) W d u := fun i d u hd hu => by
  match i with
  | 0 => simp at hd hu; subst hd; subst hu; exact h
  | i + 1 => simp at hd hu; exact hr i d u hd (by simpa using hu)
end Go.Proofs.Ytdkneonokbakjaa.Eng

noncomputable section
namespace Go.Proofs.Ytdkneonokbakjaa.Eng
open Go.RowKit
def shRim : Sh := .cons (.int .i64) (.cons (.int .i64) (.cons (.int .i64) (.cons (.cons (.int .i64) (.cons (.int .i64) .nil)) .nil)))
def shRun : Sh := .cons (.int .i64) (.cons (.int .i64) .nil)
theorem rim_in {d : Dat} (h : shRim.D d) : ∃ s : RS, d = stoD s := by
  obtain ⟨_, rfl, _, _, rfl, ⟨a, rfl, _⟩, _, _, rfl, ⟨b, rfl, _⟩, _, _, rfl, ⟨c, rfl, _⟩, _, _, rfl, ⟨_, _, rfl, ⟨x, rfl, _⟩, _, _, rfl, ⟨y, rfl, _⟩, rfl⟩, rfl⟩ := h
  exact ⟨⟨a, b, c, x, y⟩, rfl⟩
theorem run_in {r : List Dat} (h : shRun.Row r) : ∃ s : Int × Int, r = runRow s := by
  obtain ⟨_, _, rfl, ⟨a, rfl, _⟩, _, _, rfl, ⟨b, rfl, _⟩, rfl⟩ := h
  exact ⟨(a, b), rfl⟩
theorem runs_of {d : Dat} (h : (Sh.sl shRun).D d) : ∃ l : List (Int × Int), d = runsD l := by
  obtain ⟨rows, rfl, hr⟩ := h
  obtain ⟨l, rfl⟩ := rows_of fun x hx => run_in (hr x hx)
  exact ⟨l, rfl⟩
end Go.Proofs.Ytdkneonokbakjaa.Eng

namespace Go.Proofs.Ytdkneonokbakjaa.rimPlans
open Go.ChangeShapes Go.WideShapes Go.ChangeAt Go.RowKit Go.Deep
theorem own : ownKnob Try.prog.godebug = none := by kernel_rfl
theorem kids : Kids Try.prog (· < Try.prog.types.size) := kids_rows (by kernel_rfl) (by kernel_rfl)
theorem full : ∀ t e, t < Try.prog.types.size → Try.prog.underlying t = some (.slice e) → 0 < Try.prog.cellsOf e := slices_full_of Try.prog (by kernel_rfl)
theorem rowed : ∀ t ∈ Try.f4.params.toList, t < Try.prog.types.size := of_decide_eq_true (by kernel_rfl)
set_option maxRecDepth 100000 in
set_option maxHeartbeats 1000000 in
theorem lifted (os : Os) (started : os.Started) (H : Type) (enc : TypeId × Value → H) :
    ReturnsInHanded {} Try.checked os 4 .any (Rows.rimPlansSpec.pre6 enc Try.prog Try.f4 Rows.rimPlansRow.domain false) (Rows.rimPlansSpec.post enc Try.prog Try.f4 false true false false) := by
  refine returnsInHanded_of_change (C := Try.checked) own started (by kernel_rfl) Try.func4
    (ChangeSpec.witness6 (enc := enc) (C := Try.checked) false ⟨#[], #[.agg #[.int .i64 0, .int .i64 0, .int .i64 0, .int .i64 0, .int .i64 0], .slice none 0 0, .slice none 0 0], []⟩ 8 (by kernel_rfl) (by kernel_rfl) (by kernel_rfl) (by kernel_rfl)) ?_
  intro W base args ds gs before hval0 hW hcnd _
  have hval : ∀ (j : Nat) t v, Try.f4.params[j]? = some t → args[j]? = some v → Value.okWide Try.prog W .any base t v := hval0
  have hW' := hW
  obtain ⟨p, q, hA0, hV, rfl, hfz, hnd⟩ := hW
  have hA : DataW.TrodAll enc Try.prog W 0 (fun _ => true) true Try.f4.params.toList args.toList ds p := hA0
  have hAk := hA
  rw [Try.params4] at hA hval
  obtain ⟨v0, vs0, d0, ds0, a0, b0, e0, f0, rfl, h0, t0⟩ := trodAll_cons hA
  obtain ⟨v1, vs1, d1, ds1, a1, b1, e1, f1, rfl, h1, t1⟩ := trodAll_cons t0
  obtain ⟨v2, vs2, d2, ds2, a2, b2, e2, f2, rfl, h2, t2⟩ := trodAll_cons t1
  obtain ⟨en, fn, rfl⟩ := trodAll_nil t2
  subst en
  subst fn
  subst e2
  subst f2
  subst e1
  subst f1
  subst f0
  have ea : args = #[v0, v1, v2] := by rw [← Array.toList_inj]; exact e0
  subst ea
  clear e0
  obtain ⟨rfl, rfl⟩ := trodVars_none hV
  clear hA0 hval0 hA
  simp only [List.append_nil] at hW' hAk
  have o0 := hval 0 _ _ rfl rfl
  have o1 := hval 1 _ _ rfl rfl
  have o2 := hval 2 _ _ rfl rfl
  clear hval
  obtain ⟨D0, s0, r0⟩ := Eng.open_sh (n := 9) (Eng.shRim) (by kernel_rfl) o0 h0
  obtain ⟨D1, s1, r1⟩ := Eng.open_sh (n := 9) (.sl (.int .i64)) (by kernel_rfl) o1 h1
  obtain ⟨D2, s2, r2⟩ := Eng.open_sh (n := 9) (.sl Eng.shRun) (by kernel_rfl) o2 h2
  obtain ⟨s, rfl⟩ := Eng.rim_in s0
  obtain ⟨ps, rfl⟩ := Eng.ints_in s1
  obtain ⟨l, rfl⟩ := Eng.runs_of s2
  refine Calls.mono (Eng.law_true (Eng.rimPlans_c s ps l) rfl (Eng.reps_cons r0 (Eng.reps_cons r1 (Eng.reps_cons r2 Eng.reps_nil)))) fun e W' ⟨he, hb⟩ => ?_
  subst he
  exact ⟨_, rfl, post_later (pv := []) hW' (List.append_nil _).symm (fun _ _ _ => (trodAll_cons_mk (shut_bool Try.underlying4 _) trodAll_mk0))
    (fun sp hsp => Eng.args_later' kids full rowed hAk hb hsp) (fun _ _ => rfl) (ok_one (by kernel_rfl) rfl (okWide_bool_mk Try.underlying4 _)) hb⟩
theorem over : Rows.rimPlansRow.holds Try.pinned (OpenSpec.ofChange Rows.rimPlansSpec) :=
  OpenClaim.holds_of_wide 4 Try.f4 rfl rfl rfl rfl rfl rfl rfl ⟨rfl, rfl, rfl, rfl, rfl⟩ rfl rfl rfl rfl rfl (by kernel_rfl) Try.func4 (by kernel_rfl)
    (of_decide_eq_true (by kernel_rfl)) (by unfold Func.isWrapper; first | (rw [if_pos (by decide +kernel)]; kernel_rfl) | (rw [if_neg (by decide +kernel)]; exact ⟨rfl, rfl⟩))
    (fun os started H enc _ => lifted os started H enc)
theorem proved : Rows.RimPlansSaid := over
end Go.Proofs.Ytdkneonokbakjaa.rimPlans
