/-
  RimStones returns true, for every stone, pulleys and pulley: which stones and pulleys are valid, between which lengths a pulley is allowed, and the gap, are what the definitions say, or the error. No condition.
-/
import Derived.Test.YtdkneonokbakjaaDo5
import Derived.Test.YtdkneonokbakjaaRows
import Derived.ProofKit
import Derived.OpenShut
import Derived.Below
import Derived.ChangeSame
import Derived.ReadAgain
import Derived.Deep.Slices
set_option linter.unusedSimpArgs false
set_option linter.unusedVariables false
noncomputable section
namespace Go.Proofs.Ytdkneonokbakjaa.Eng
open Go.RowKit
set_option maxRecDepth 100000
set_option maxHeartbeats 8000000
@[simp] theorem nk1 (n : Nat) : (n = n + 1) = False := by simp only [eq_iff_iff, iff_false]; omega
@[simp] theorem mk1 (n : Nat) : (n + 1 = n) = False := by simp only [eq_iff_iff, iff_false]; omega
@[simp] theorem nk2 (n : Nat) : (n = n + 1 + 1) = False := by simp only [eq_iff_iff, iff_false]; omega
@[simp] theorem mk2 (n : Nat) : (n + 1 + 1 = n) = False := by simp only [eq_iff_iff, iff_false]; omega
@[simp] theorem nk3 (n : Nat) : (n = n + 1 + 1 + 1) = False := by simp only [eq_iff_iff, iff_false]; omega
@[simp] theorem mk3 (n : Nat) : (n + 1 + 1 + 1 = n) = False := by simp only [eq_iff_iff, iff_false]; omega
@[simp] theorem nk4 (n : Nat) : (n = n + 1 + 1 + 1 + 1) = False := by simp only [eq_iff_iff, iff_false]; omega
@[simp] theorem mk4 (n : Nat) : (n + 1 + 1 + 1 + 1 = n) = False := by simp only [eq_iff_iff, iff_false]; omega
@[simp] theorem nk5 (n : Nat) : (n = n + 1 + 1 + 1 + 1 + 1) = False := by simp only [eq_iff_iff, iff_false]; omega
@[simp] theorem mk5 (n : Nat) : (n + 1 + 1 + 1 + 1 + 1 = n) = False := by simp only [eq_iff_iff, iff_false]; omega
@[simp] theorem nk6 (n : Nat) : (n = n + 1 + 1 + 1 + 1 + 1 + 1) = False := by simp only [eq_iff_iff, iff_false]; omega
@[simp] theorem mk6 (n : Nat) : (n + 1 + 1 + 1 + 1 + 1 + 1 = n) = False := by simp only [eq_iff_iff, iff_false]; omega
@[simp] theorem nk7 (n : Nat) : (n = n + 1 + 1 + 1 + 1 + 1 + 1 + 1) = False := by simp only [eq_iff_iff, iff_false]; omega
@[simp] theorem mk7 (n : Nat) : (n + 1 + 1 + 1 + 1 + 1 + 1 + 1 = n) = False := by simp only [eq_iff_iff, iff_false]; omega
@[simp] theorem nk8 (n : Nat) : (n = n + 1 + 1 + 1 + 1 + 1 + 1 + 1 + 1) = False := by simp only [eq_iff_iff, iff_false]; omega
@[simp] theorem mk8 (n : Nat) : (n + 1 + 1 + 1 + 1 + 1 + 1 + 1 + 1 = n) = False := by simp only [eq_iff_iff, iff_false]; omega
@[simp] theorem nk9 (n : Nat) : (n = n + 1 + 1 + 1 + 1 + 1 + 1 + 1 + 1 + 1) = False := by simp only [eq_iff_iff, iff_false]; omega
@[simp] theorem mk9 (n : Nat) : (n + 1 + 1 + 1 + 1 + 1 + 1 + 1 + 1 + 1 = n) = False := by simp only [eq_iff_iff, iff_false]; omega
@[simp] theorem nk10 (n : Nat) : (n = n + 1 + 1 + 1 + 1 + 1 + 1 + 1 + 1 + 1 + 1) = False := by simp only [eq_iff_iff, iff_false]; omega
@[simp] theorem mk10 (n : Nat) : (n + 1 + 1 + 1 + 1 + 1 + 1 + 1 + 1 + 1 + 1 = n) = False := by simp only [eq_iff_iff, iff_false]; omega
@[simp] theorem nk11 (n : Nat) : (n = n + 1 + 1 + 1 + 1 + 1 + 1 + 1 + 1 + 1 + 1 + 1) = False := by simp only [eq_iff_iff, iff_false]; omega
@[simp] theorem mk11 (n : Nat) : (n + 1 + 1 + 1 + 1 + 1 + 1 + 1 + 1 + 1 + 1 + 1 = n) = False := by simp only [eq_iff_iff, iff_false]; omega
@[simp] theorem nk12 (n : Nat) : (n = n + 1 + 1 + 1 + 1 + 1 + 1 + 1 + 1 + 1 + 1 + 1 + 1) = False := by simp only [eq_iff_iff, iff_false]; omega
@[simp] theorem mk12 (n : Nat) : (n + 1 + 1 + 1 + 1 + 1 + 1 + 1 + 1 + 1 + 1 + 1 + 1 = n) = False := by simp only [eq_iff_iff, iff_false]; omega
@[simp] theorem nk13 (n : Nat) : (n = n + 1 + 1 + 1 + 1 + 1 + 1 + 1 + 1 + 1 + 1 + 1 + 1 + 1) = False := by simp only [eq_iff_iff, iff_false]; omega
@[simp] theorem mk13 (n : Nat) : (n + 1 + 1 + 1 + 1 + 1 + 1 + 1 + 1 + 1 + 1 + 1 + 1 + 1 = n) = False := by simp only [eq_iff_iff, iff_false]; omega
@[simp] theorem nk14 (n : Nat) : (n = n + 1 + 1 + 1 + 1 + 1 + 1 + 1 + 1 + 1 + 1 + 1 + 1 + 1 + 1) = False := by simp only [eq_iff_iff, iff_false]; omega
@[simp] theorem mk14 (n : Nat) : (n + 1 + 1 + 1 + 1 + 1 + 1 + 1 + 1 + 1 + 1 + 1 + 1 + 1 + 1 = n) = False := by simp only [eq_iff_iff, iff_false]; omega
@[simp] theorem nk15 (n : Nat) : (n = n + 1 + 1 + 1 + 1 + 1 + 1 + 1 + 1 + 1 + 1 + 1 + 1 + 1 + 1 + 1) = False := by simp only [eq_iff_iff, iff_false]; omega
@[simp] theorem mk15 (n : Nat) : (n + 1 + 1 + 1 + 1 + 1 + 1 + 1 + 1 + 1 + 1 + 1 + 1 + 1 + 1 + 1 = n) = False := by simp only [eq_iff_iff, iff_false]; omega
@[simp] theorem nk16 (n : Nat) : (n = n + 1 + 1 + 1 + 1 + 1 + 1 + 1 + 1 + 1 + 1 + 1 + 1 + 1 + 1 + 1 + 1) = False := by simp only [eq_iff_iff, iff_false]; omega
@[simp] theorem mk16 (n : Nat) : (n + 1 + 1 + 1 + 1 + 1 + 1 + 1 + 1 + 1 + 1 + 1 + 1 + 1 + 1 + 1 + 1 = n) = False := by simp only [eq_iff_iff, iff_false]; omega
@[simp] theorem nk17 (n : Nat) : (n = n + 1 + 1 + 1 + 1 + 1 + 1 + 1 + 1 + 1 + 1 + 1 + 1 + 1 + 1 + 1 + 1 + 1) = False := by simp only [eq_iff_iff, iff_false]; omega
@[simp] theorem mk17 (n : Nat) : (n + 1 + 1 + 1 + 1 + 1 + 1 + 1 + 1 + 1 + 1 + 1 + 1 + 1 + 1 + 1 + 1 + 1 = n) = False := by simp only [eq_iff_iff, iff_false]; omega
@[simp] theorem nk18 (n : Nat) : (n = n + 1 + 1 + 1 + 1 + 1 + 1 + 1 + 1 + 1 + 1 + 1 + 1 + 1 + 1 + 1 + 1 + 1 + 1) = False := by simp only [eq_iff_iff, iff_false]; omega
@[simp] theorem mk18 (n : Nat) : (n + 1 + 1 + 1 + 1 + 1 + 1 + 1 + 1 + 1 + 1 + 1 + 1 + 1 + 1 + 1 + 1 + 1 + 1 = n) = False := by simp only [eq_iff_iff, iff_false]; omega
@[simp] theorem nk19 (n : Nat) : (n = n + 1 + 1 + 1 + 1 + 1 + 1 + 1 + 1 + 1 + 1 + 1 + 1 + 1 + 1 + 1 + 1 + 1 + 1 + 1) = False := by simp only [eq_iff_iff, iff_false]; omega
@[simp] theorem mk19 (n : Nat) : (n + 1 + 1 + 1 + 1 + 1 + 1 + 1 + 1 + 1 + 1 + 1 + 1 + 1 + 1 + 1 + 1 + 1 + 1 + 1 = n) = False := by simp only [eq_iff_iff, iff_false]; omega
@[simp] theorem nk20 (n : Nat) : (n = n + 1 + 1 + 1 + 1 + 1 + 1 + 1 + 1 + 1 + 1 + 1 + 1 + 1 + 1 + 1 + 1 + 1 + 1 + 1 + 1) = False := by simp only [eq_iff_iff, iff_false]; omega
@[simp] theorem mk20 (n : Nat) : (n + 1 + 1 + 1 + 1 + 1 + 1 + 1 + 1 + 1 + 1 + 1 + 1 + 1 + 1 + 1 + 1 + 1 + 1 + 1 + 1 = n) = False := by simp only [eq_iff_iff, iff_false]; omega
@[simp] theorem nk21 (n : Nat) : (n = n + 1 + 1 + 1 + 1 + 1 + 1 + 1 + 1 + 1 + 1 + 1 + 1 + 1 + 1 + 1 + 1 + 1 + 1 + 1 + 1 + 1) = False := by simp only [eq_iff_iff, iff_false]; omega
@[simp] theorem mk21 (n : Nat) : (n + 1 + 1 + 1 + 1 + 1 + 1 + 1 + 1 + 1 + 1 + 1 + 1 + 1 + 1 + 1 + 1 + 1 + 1 + 1 + 1 + 1 = n) = False := by simp only [eq_iff_iff, iff_false]; omega
@[simp] theorem nk22 (n : Nat) : (n = n + 1 + 1 + 1 + 1 + 1 + 1 + 1 + 1 + 1 + 1 + 1 + 1 + 1 + 1 + 1 + 1 + 1 + 1 + 1 + 1 + 1 + 1) = False := by simp only [eq_iff_iff, iff_false]; omega
@[simp] theorem mk22 (n : Nat) : (n + 1 + 1 + 1 + 1 + 1 + 1 + 1 + 1 + 1 + 1 + 1 + 1 + 1 + 1 + 1 + 1 + 1 + 1 + 1 + 1 + 1 + 1 = n) = False := by simp only [eq_iff_iff, iff_false]; omega
@[simp] theorem nk23 (n : Nat) : (n = n + 1 + 1 + 1 + 1 + 1 + 1 + 1 + 1 + 1 + 1 + 1 + 1 + 1 + 1 + 1 + 1 + 1 + 1 + 1 + 1 + 1 + 1 + 1) = False := by simp only [eq_iff_iff, iff_false]; omega
@[simp] theorem mk23 (n : Nat) : (n + 1 + 1 + 1 + 1 + 1 + 1 + 1 + 1 + 1 + 1 + 1 + 1 + 1 + 1 + 1 + 1 + 1 + 1 + 1 + 1 + 1 + 1 + 1 = n) = False := by simp only [eq_iff_iff, iff_false]; omega
@[simp] theorem nk24 (n : Nat) : (n = n + 1 + 1 + 1 + 1 + 1 + 1 + 1 + 1 + 1 + 1 + 1 + 1 + 1 + 1 + 1 + 1 + 1 + 1 + 1 + 1 + 1 + 1 + 1 + 1) = False := by simp only [eq_iff_iff, iff_false]; omega
@[simp] theorem mk24 (n : Nat) : (n + 1 + 1 + 1 + 1 + 1 + 1 + 1 + 1 + 1 + 1 + 1 + 1 + 1 + 1 + 1 + 1 + 1 + 1 + 1 + 1 + 1 + 1 + 1 + 1 = n) = False := by simp only [eq_iff_iff, iff_false]; omega
@[simp] theorem nk25 (n : Nat) : (n = n + 1 + 1 + 1 + 1 + 1 + 1 + 1 + 1 + 1 + 1 + 1 + 1 + 1 + 1 + 1 + 1 + 1 + 1 + 1 + 1 + 1 + 1 + 1 + 1 + 1) = False := by simp only [eq_iff_iff, iff_false]; omega
@[simp] theorem mk25 (n : Nat) : (n + 1 + 1 + 1 + 1 + 1 + 1 + 1 + 1 + 1 + 1 + 1 + 1 + 1 + 1 + 1 + 1 + 1 + 1 + 1 + 1 + 1 + 1 + 1 + 1 + 1 = n) = False := by simp only [eq_iff_iff, iff_false]; omega
@[simp] theorem nk26 (n : Nat) : (n = n + 1 + 1 + 1 + 1 + 1 + 1 + 1 + 1 + 1 + 1 + 1 + 1 + 1 + 1 + 1 + 1 + 1 + 1 + 1 + 1 + 1 + 1 + 1 + 1 + 1 + 1) = False := by simp only [eq_iff_iff, iff_false]; omega
@[simp] theorem mk26 (n : Nat) : (n + 1 + 1 + 1 + 1 + 1 + 1 + 1 + 1 + 1 + 1 + 1 + 1 + 1 + 1 + 1 + 1 + 1 + 1 + 1 + 1 + 1 + 1 + 1 + 1 + 1 + 1 = n) = False := by simp only [eq_iff_iff, iff_false]; omega
@[simp] theorem nk27 (n : Nat) : (n = n + 1 + 1 + 1 + 1 + 1 + 1 + 1 + 1 + 1 + 1 + 1 + 1 + 1 + 1 + 1 + 1 + 1 + 1 + 1 + 1 + 1 + 1 + 1 + 1 + 1 + 1 + 1) = False := by simp only [eq_iff_iff, iff_false]; omega
@[simp] theorem mk27 (n : Nat) : (n + 1 + 1 + 1 + 1 + 1 + 1 + 1 + 1 + 1 + 1 + 1 + 1 + 1 + 1 + 1 + 1 + 1 + 1 + 1 + 1 + 1 + 1 + 1 + 1 + 1 + 1 + 1 = n) = False := by simp only [eq_iff_iff, iff_false]; omega
@[simp] theorem nk28 (n : Nat) : (n = n + 1 + 1 + 1 + 1 + 1 + 1 + 1 + 1 + 1 + 1 + 1 + 1 + 1 + 1 + 1 + 1 + 1 + 1 + 1 + 1 + 1 + 1 + 1 + 1 + 1 + 1 + 1 + 1) = False := by simp only [eq_iff_iff, iff_false]; omega
@[simp] theorem mk28 (n : Nat) : (n + 1 + 1 + 1 + 1 + 1 + 1 + 1 + 1 + 1 + 1 + 1 + 1 + 1 + 1 + 1 + 1 + 1 + 1 + 1 + 1 + 1 + 1 + 1 + 1 + 1 + 1 + 1 + 1 = n) = False := by simp only [eq_iff_iff, iff_false]; omega
@[simp] theorem nk29 (n : Nat) : (n = n + 1 + 1 + 1 + 1 + 1 + 1 + 1 + 1 + 1 + 1 + 1 + 1 + 1 + 1 + 1 + 1 + 1 + 1 + 1 + 1 + 1 + 1 + 1 + 1 + 1 + 1 + 1 + 1 + 1) = False := by simp only [eq_iff_iff, iff_false]; omega
@[simp] theorem mk29 (n : Nat) : (n + 1 + 1 + 1 + 1 + 1 + 1 + 1 + 1 + 1 + 1 + 1 + 1 + 1 + 1 + 1 + 1 + 1 + 1 + 1 + 1 + 1 + 1 + 1 + 1 + 1 + 1 + 1 + 1 + 1 = n) = False := by simp only [eq_iff_iff, iff_false]; omega
@[simp] theorem nk30 (n : Nat) : (n = n + 1 + 1 + 1 + 1 + 1 + 1 + 1 + 1 + 1 + 1 + 1 + 1 + 1 + 1 + 1 + 1 + 1 + 1 + 1 + 1 + 1 + 1 + 1 + 1 + 1 + 1 + 1 + 1 + 1 + 1) = False := by simp only [eq_iff_iff, iff_false]; omega
@[simp] theorem mk30 (n : Nat) : (n + 1 + 1 + 1 + 1 + 1 + 1 + 1 + 1 + 1 + 1 + 1 + 1 + 1 + 1 + 1 + 1 + 1 + 1 + 1 + 1 + 1 + 1 + 1 + 1 + 1 + 1 + 1 + 1 + 1 + 1 = n) = False := by simp only [eq_iff_iff, iff_false]; omega
theorem setMem_lt {m : Mem} {a j : Nat} {b : Option Blk} (h : j < a) : setMem m a b j = m j := if_neg (by omega)
theorem putN_lt {m q : Mem} {a b j : Nat} (h : j < a) : putN m a b q j = m j := if_neg (by omega)
theorem mixedR : Try.prog.follows .mixedOrders = true := by kernel_rfl
abbrev sto5 (s : RS) : List SV := [.d (iD s.long), .d (iD s.short), .d (iD s.off), .d (iD s.lo), .d (iD s.hi)]
def spS (A : Rgs) : List SV := (List.range 12).flatMap fun j => [.d (iD (A j).1), .d (iD (A j).2)]
def whS (s : RS) (ps : List Int) (A : Rgs) : List SV := sto5 s ++ .d (intL ps) :: spS A
@[simp] theorem spS_len (A : Rgs) : (spS A).length = 24 := by simp [spS, List.range_succ]
@[simp] theorem whS_len (s : RS) (ps : List Int) (A : Rgs) : (whS s ps A).length = 30 := by simp [whS]
@[simp] theorem wh0 (s : RS) (ps : List Int) (A : Rgs) : List.take 1 (whS s ps A) = [.d (iD s.long)] := rfl
@[simp] theorem wh1 (s : RS) (ps : List Int) (A : Rgs) : List.take 1 (List.drop 1 (whS s ps A)) = [.d (iD s.short)] := rfl
@[simp] theorem wh1t (s : RS) (ps : List Int) (A : Rgs) : List.take 1 (whS s ps A).tail = [.d (iD s.short)] := rfl
@[simp] theorem wh2 (s : RS) (ps : List Int) (A : Rgs) : List.take 1 (List.drop 2 (whS s ps A)) = [.d (iD s.off)] := rfl
@[simp] theorem wh3 (s : RS) (ps : List Int) (A : Rgs) : List.take 1 (List.drop 3 (whS s ps A)) = [.d (iD s.lo)] := rfl
@[simp] theorem wh4 (s : RS) (ps : List Int) (A : Rgs) : List.take 1 (List.drop 4 (whS s ps A)) = [.d (iD s.hi)] := rfl
@[simp] theorem wh5 (s : RS) (ps : List Int) (A : Rgs) : List.take 1 (List.drop 5 (whS s ps A)) = [.d (intL ps)] := rfl
@[simp] theorem whR (s : RS) (ps : List Int) (A : Rgs) : List.take 5 (whS s ps A) = sto5 s := rfl
@[simp] theorem whA (s : RS) (ps : List Int) (A : Rgs) : List.take 24 (List.drop 6 (whS s ps A)) = spS A := by simp [whS]; exact List.take_of_length_le (by simp)
theorem sp_at (A : Rgs) {p : Nat} (hp : p < 12) : List.take 2 (List.drop (p * 2) (spS A)) = [.d (iD (A p).1), .d (iD (A p).2)] := by
  have h : ∀ p : Fin 12, List.take 2 (List.drop (p.1 * 2) (spS A)) = [.d (iD (A p.1).1), .d (iD (A p.1).2)] := by
    intro p
    match p with
    | ⟨0, _⟩ => rfl
    | ⟨1, _⟩ => rfl
    | ⟨2, _⟩ => rfl
    | ⟨3, _⟩ => rfl
    | ⟨4, _⟩ => rfl
    | ⟨5, _⟩ => rfl
    | ⟨6, _⟩ => rfl
    | ⟨7, _⟩ => rfl
    | ⟨8, _⟩ => rfl
    | ⟨9, _⟩ => rfl
    | ⟨10, _⟩ => rfl
    | ⟨11, _⟩ => rfl
  exact h ⟨p, hp⟩
theorem wh_drop (s : RS) (ps : List Int) (A : Rgs) (k : Nat) : List.drop (6 + k) (whS s ps A) = List.drop k (spS A) := by
  rw [← List.drop_drop]
  rfl
theorem wh_at (s : RS) (ps : List Int) (A : Rgs) {p : Nat} (hp : p < 12) : List.take 2 (List.drop (6 + p * 2) (whS s ps A)) = [.d (iD (A p).1), .d (iD (A p).2)] := by rw [wh_drop, sp_at A hp]
abbrev WhAt (s : RS) (ps : List Int) (A : Rgs) (w : Nat) (m : Mem) : Prop := m w = some (.box 83 (whS s ps A) false)
theorem isPulley_w {s : RS} {ps : List Int} {A : Rgs} {w : Nat} {m : Mem} (hm : WhAt s ps A w m) (p : Int) (n : Nat) :
    CWp Try.prog 50 [.ptr w 0 0, .d (iD p)] n m fun y n' m' => n ≤ n' ∧ n' ≤ n + 20 ∧ y = .d (bD (decide (0 ≤ p ∧ p < ps.length))) ∧ m' = m := by
  by_cases g1 : 0 ≤ p
  · by_cases g2 : p < ps.length
    · rw [decide_eq_true ⟨g1, g2⟩]
      refine cwpK tabOk Try.func50 rfl rfl (show 2 ≤ _ by decide) rfl fun _ => ?_; simp only [Try.ntmps50]
      repeat (first | (with_reducible first | refine AWi.seqK fun _ => ?_ | refine AWi.blockK fun _ => ?_ | refine KI.go ?_) | ((first | refine AWi.region tabOk ?_ | refine AWi.condK fun _ _ => ?_ | refine AWi.draws tabOk rfl (by kernel_rfl) (by kernel_rfl) ?_); simp [-getElem?_pos, z0, z1, z2, hm, g1, g2]) | ((first | refine AWi.ret ?_ | refine AWi.skip ?_ | refine AWi.exit ?_); try simp only [thenP]) | (with_reducible refine BB.go ?_; simp only [blockP, thenP, reduceIte]) | (with_reducible refine And.intro (okLog_c (by simp [footOf, guardSlot, slotsOf, idsRead, looks, idsOf, idsOf1, idsWritten, colF]; kernel_rfl)) ?_))
      exact RI.ret rfl ⟨by omega, by omega, rfl, rfl⟩
    · rw [decide_eq_false (fun h => g2 h.2)]
      refine cwpK tabOk Try.func50 rfl rfl (show 2 ≤ _ by decide) rfl fun _ => ?_; simp only [Try.ntmps50]
      repeat (first | (with_reducible first | refine AWi.seqK fun _ => ?_ | refine AWi.blockK fun _ => ?_ | refine KI.go ?_) | ((first | refine AWi.region tabOk ?_ | refine AWi.condK fun _ _ => ?_ | refine AWi.draws tabOk rfl (by kernel_rfl) (by kernel_rfl) ?_); simp [-getElem?_pos, z0, z1, z2, hm, g1, g2]) | ((first | refine AWi.ret ?_ | refine AWi.skip ?_ | refine AWi.exit ?_); try simp only [thenP]) | (with_reducible refine BB.go ?_; simp only [blockP, thenP, reduceIte]) | (with_reducible refine And.intro (okLog_c (by simp [footOf, guardSlot, slotsOf, idsRead, looks, idsOf, idsOf1, idsWritten, colF]; kernel_rfl)) ?_))
      exact RI.ret rfl ⟨by omega, by omega, rfl, rfl⟩
  · rw [decide_eq_false (fun h => g1 h.1)]
    refine cwpK tabOk Try.func50 rfl rfl (show 2 ≤ _ by decide) rfl fun _ => ?_; simp only [Try.ntmps50]
    repeat (first | (with_reducible first | refine AWi.seqK fun _ => ?_ | refine AWi.blockK fun _ => ?_ | refine KI.go ?_) | ((first | refine AWi.region tabOk ?_ | refine AWi.condK fun _ _ => ?_ | refine AWi.draws tabOk rfl (by kernel_rfl) (by kernel_rfl) ?_); simp [-getElem?_pos, z0, z1, z2, hm, g1]) | ((first | refine AWi.ret ?_ | refine AWi.skip ?_ | refine AWi.exit ?_); try simp only [thenP]) | (with_reducible refine BB.go ?_; simp only [blockP, thenP, reduceIte]) | (with_reducible refine And.intro (okLog_c (by simp [footOf, guardSlot, slotsOf, idsRead, looks, idsOf, idsOf1, idsWritten, colF]; kernel_rfl)) ?_))
    exact RI.ret rfl ⟨by omega, by omega, rfl, rfl⟩
theorem bears_w {s : RS} {ps : List Int} {A : Rgs} {w : Nat} {m : Mem} (hm : WhAt s ps A w m) {p : Nat} (hp : p < 12) (x : Int) (n : Nat) (hw : w < n) :
    CWp Try.prog 75 [.ptr w 0 0, .d (iD p), .d (iD x)] n m fun y n' m' => n ≤ n' ∧ n' ≤ n + 30 ∧ y = .d (bD (bearB A p x)) ∧ ∀ j, j < n → m' j = m j := by
  have ha := wh_at s ps A hp
  have hl := whS_len s ps A
  have g3 : (p : Int) < 12 := by omega
  have g2 : 6 + p * 2 + 2 ≤ 30 := by omega
  obtain ⟨b, hb⟩ : ∃ b, b = bearB A p x := ⟨_, rfl⟩
  rw [← hb]
  unfold bearB at hb
  generalize A p = a at *
  obtain ⟨lo, hi⟩ := a
  simp only at hb ha
  by_cases g1 : lo ≤ x
  · by_cases g4 : x ≤ hi
    · rw [decide_eq_true ⟨g1, g4⟩] at hb
      subst hb
      refine cwpK tabOk Try.func75 rfl rfl (show 3 ≤ _ by decide) rfl fun _ => ?_; simp only [Try.ntmps75]
      repeat (first | (with_reducible first | refine AWi.seqK fun _ => ?_ | refine AWi.blockK fun _ => ?_ | refine KI.go ?_) | ((first | refine AWi.region tabOk ?_ | refine AWi.condK fun _ _ => ?_ | refine AWi.draws tabOk rfl (by kernel_rfl) (by kernel_rfl) ?_); simp [-getElem?_pos, z0, z1, z2, hm, ha, hl, g1, g2, g3, g4]) | ((first | refine AWi.ret ?_ | refine AWi.skip ?_ | refine AWi.exit ?_); try simp only [thenP]) | (with_reducible refine BB.go ?_; simp only [blockP, thenP, reduceIte]) | (with_reducible refine And.intro (okLog_c (by simp [footOf, guardSlot, slotsOf, idsRead, looks, idsOf, idsOf1, idsWritten, colF]; kernel_rfl)) ?_))
      exact RI.ret rfl ⟨by omega, by omega, rfl, fun j hj => by (try dsimp only); repeat (first | rw [setMem_lt (by omega)] | rw [putN_lt (by omega)])⟩
    · rw [decide_eq_false (fun h => g4 h.2)] at hb
      subst hb
      refine cwpK tabOk Try.func75 rfl rfl (show 3 ≤ _ by decide) rfl fun _ => ?_; simp only [Try.ntmps75]
      repeat (first | (with_reducible first | refine AWi.seqK fun _ => ?_ | refine AWi.blockK fun _ => ?_ | refine KI.go ?_) | ((first | refine AWi.region tabOk ?_ | refine AWi.condK fun _ _ => ?_ | refine AWi.draws tabOk rfl (by kernel_rfl) (by kernel_rfl) ?_); simp [-getElem?_pos, z0, z1, z2, hm, ha, hl, g1, g2, g3, g4]) | ((first | refine AWi.ret ?_ | refine AWi.skip ?_ | refine AWi.exit ?_); try simp only [thenP]) | (with_reducible refine BB.go ?_; simp only [blockP, thenP, reduceIte]) | (with_reducible refine And.intro (okLog_c (by simp [footOf, guardSlot, slotsOf, idsRead, looks, idsOf, idsOf1, idsWritten, colF]; kernel_rfl)) ?_))
      exact RI.ret rfl ⟨by omega, by omega, rfl, fun j hj => by (try dsimp only); repeat (first | rw [setMem_lt (by omega)] | rw [putN_lt (by omega)])⟩
  · rw [decide_eq_false (fun h => g1 h.1)] at hb
    subst hb
    refine cwpK tabOk Try.func75 rfl rfl (show 3 ≤ _ by decide) rfl fun _ => ?_; simp only [Try.ntmps75]
    repeat (first | (with_reducible first | refine AWi.seqK fun _ => ?_ | refine AWi.blockK fun _ => ?_ | refine KI.go ?_) | ((first | refine AWi.region tabOk ?_ | refine AWi.condK fun _ _ => ?_ | refine AWi.draws tabOk rfl (by kernel_rfl) (by kernel_rfl) ?_); simp [-getElem?_pos, z0, z1, z2, hm, ha, hl, g1, g2, g3]) | ((first | refine AWi.ret ?_ | refine AWi.skip ?_ | refine AWi.exit ?_); try simp only [thenP]) | (with_reducible refine BB.go ?_; simp only [blockP, thenP, reduceIte]) | (with_reducible refine And.intro (okLog_c (by simp [footOf, guardSlot, slotsOf, idsRead, looks, idsOf, idsOf1, idsWritten, colF]; kernel_rfl)) ?_))
    exact RI.ret rfl ⟨by omega, by omega, rfl, fun j hj => by (try dsimp only); repeat (first | rw [setMem_lt (by omega)] | rw [putN_lt (by omega)])⟩
theorem span_w {s : RS} {ps : List Int} {A : Rgs} {w : Nat} {m : Mem} (hm : WhAt s ps A w m) (hg : GoodR s) {p : Nat} {t : Int} (ht : ps[p]? = some t) (h1 : 1 ≤ t ∧ t ≤ 10000) (n : Nat) (hw : w < n) :
    CWp Try.prog 87 [.ptr w 0 0, .d (iD p)] n m fun y n' m' => toD3 y = some (rngD (spR s t)) ∧ ∀ j, j < n → m' j = m j := by
  have := hg.s1; have := hg.s2; have := hg.s3; have := hg.o1; have := hg.o2; have := hg.l1; have := hg.l2; have := hg.l3
  have hl := whS_len s ps A
  have hp : p < ps.length := (List.getElem?_eq_some_iff.1 ht).1
  have hpi : (p : Int) < ps.length := by omega
  obtain ⟨a, ha⟩ : ∃ a, a = (s.lo + t - 1) / t := ⟨_, rfl⟩
  obtain ⟨q, hq⟩ : ∃ q, q = s.hi / t := ⟨_, rfl⟩
  have q1 : (s.lo + t - 1).tdiv t = a := by rw [Int.tdiv_eq_ediv_of_nonneg (by omega), ha]
  have q2 : s.hi.tdiv t = q := by rw [Int.tdiv_eq_ediv_of_nonneg (by omega), hq]
  have hp1 : 0 ≤ a := by rw [ha]; exact Int.ediv_nonneg (by omega) (by omega)
  have hp2 : a ≤ 1000010000 := by rw [ha]; exact Int.le_trans (Int.ediv_le_self _ (by omega)) (by omega)
  have hq1 : 0 ≤ q := by rw [hq]; exact Int.ediv_nonneg (by omega) (by omega)
  have hq2 : q ≤ 1000000000 := by rw [hq]; exact Int.le_trans (Int.ediv_le_self _ (by omega)) (by omega)
  obtain ⟨x, hx⟩ : ∃ x, x = max s.short (a + s.off) := ⟨_, rfl⟩
  obtain ⟨y, hy⟩ : ∃ y, y = min s.long (q - s.off) := ⟨_, rfl⟩
  have hres : spR s t = if y < x then (0, 0) else (x, y) := by
    have : betR s t = (x, y) := by rw [betR, ← ha, ← hq, ← hx, ← hy]
    rw [spR, this]
  have m1 : (if s.short < a + s.off then a + s.off else s.short) = x := by rw [hx]; split <;> omega
  have m2 : (if q - s.off < s.long then q - s.off else s.long) = y := by rw [hy]; split <;> omega
  have w1 : IntKind.i64.wrap (s.lo + t) = s.lo + t := wrap64_in (by omega)
  have w2 : IntKind.i64.wrap (s.lo + t - 1) = s.lo + t - 1 := wrap64_in (by omega)
  have w3 : IntKind.i64.wrap a = a := wrap64_in (by omega)
  have w4 : IntKind.i64.wrap q = q := wrap64_in (by omega)
  have w5 : IntKind.i64.wrap (a + s.off) = a + s.off := wrap64_in (by omega)
  have w6 : IntKind.i64.wrap (q - s.off) = q - s.off := wrap64_in (by omega)
  have ht0 : ¬ t = 0 := by omega
  have hwn : ¬ w = n := by omega
  rw [hres]
  by_cases g : y < x
  · rw [if_pos g]
    refine cwpK tabOk Try.func87 rfl rfl (show 2 ≤ _ by decide) rfl fun _ => ?_; simp only [Try.ntmps87]
    repeat (first | (with_reducible first | refine AWi.seqK fun _ => ?_ | refine AWi.blockK fun _ => ?_ | refine KI.go ?_) | ((first | refine AWi.region tabOk ?_ | refine AWi.condK fun _ _ => ?_); simp [-getElem?_pos, z0, z1, z2, hm, hl, hp, hpi, ht, hwn]) | ((first | refine AWi.ret ?_ | refine AWi.skip ?_ | refine AWi.exit ?_); try simp only [thenP]) | (with_reducible refine BB.go ?_; simp only [blockP, thenP, reduceIte]))
    refine AWi.drawsT tabOk mixedR 45 (by kernel_rfl) (by kernel_rfl) ?_
    simp only [List.take_succ_cons, List.take_zero, List.drop_succ_cons, List.drop_zero]
    repeat (with_reducible refine ExecV.auto tabOk ?_; simp [-getElem?_pos, z0, z1, z2, kindV, isPure, hm, hl, hp, hpi, ht, hwn, w1, w2, w3, w4, w5, w6, q1, q2, m1, m2, ht0, hw]; try (refine And.intro (OkV_old (by simp; try omega) (by omega) (by simp [AllAcc])) ?_))
    unfold ExecV
    simp [-getElem?_pos, z0, z1, z2, g]
    repeat (first | (with_reducible first | refine AWi.seqK fun _ => ?_ | refine AWi.blockK fun _ => ?_ | refine KI.go ?_) | ((first | refine AWi.region tabOk ?_ | refine AWi.condK fun _ _ => ?_); simp [-getElem?_pos, z0, z1, z2, hwn, g]) | ((first | refine AWi.ret ?_ | refine AWi.skip ?_ | refine AWi.exit ?_); try simp only [thenP]) | (with_reducible refine BB.go ?_; simp only [blockP, thenP, reduceIte]))
    refine RI.ret (xs := [.agg [.d (iD 0), .d (iD 0)]]) (by simp [Try.results87, resSlots, resSlot, g]) ?_
    exact ⟨rfl, fun j hj => by (try dsimp only); repeat (first | rw [setMem_lt (by omega)] | rw [putN_lt (by omega)])⟩
  · rw [if_neg g]
    refine cwpK tabOk Try.func87 rfl rfl (show 2 ≤ _ by decide) rfl fun _ => ?_; simp only [Try.ntmps87]
    repeat (first | (with_reducible first | refine AWi.seqK fun _ => ?_ | refine AWi.blockK fun _ => ?_ | refine KI.go ?_) | ((first | refine AWi.region tabOk ?_ | refine AWi.condK fun _ _ => ?_); simp [-getElem?_pos, z0, z1, z2, hm, hl, hp, hpi, ht, hwn]) | ((first | refine AWi.ret ?_ | refine AWi.skip ?_ | refine AWi.exit ?_); try simp only [thenP]) | (with_reducible refine BB.go ?_; simp only [blockP, thenP, reduceIte]))
    refine AWi.drawsT tabOk mixedR 45 (by kernel_rfl) (by kernel_rfl) ?_
    simp only [List.take_succ_cons, List.take_zero, List.drop_succ_cons, List.drop_zero]
    repeat (with_reducible refine ExecV.auto tabOk ?_; simp [-getElem?_pos, z0, z1, z2, kindV, isPure, hm, hl, hp, hpi, ht, hwn, w1, w2, w3, w4, w5, w6, q1, q2, m1, m2, ht0, hw]; try (refine And.intro (OkV_old (by simp; try omega) (by omega) (by simp [AllAcc])) ?_))
    unfold ExecV
    simp [-getElem?_pos, z0, z1, z2, g]
    repeat (first | (with_reducible first | refine AWi.seqK fun _ => ?_ | refine AWi.blockK fun _ => ?_ | refine KI.go ?_) | ((first | refine AWi.region tabOk ?_ | refine AWi.condK fun _ _ => ?_); simp [-getElem?_pos, z0, z1, z2, hwn, g]) | ((first | refine AWi.ret ?_ | refine AWi.skip ?_ | refine AWi.exit ?_); try simp only [thenP]) | (with_reducible refine BB.go ?_; simp only [blockP, thenP, reduceIte]))
    refine RI.ret (xs := [.agg [.d (iD x), .d (iD y)]]) (by simp [Try.results87, resSlots, resSlot, g]) ?_
    exact ⟨rfl, fun j hj => by (try dsimp only); repeat (first | rw [setMem_lt (by omega)] | rw [putN_lt (by omega)])⟩
end Go.Proofs.Ytdkneonokbakjaa.Eng

noncomputable section
namespace Go.Proofs.Ytdkneonokbakjaa.Eng
open Go.RowKit
variable {P : Program} {T : Tab} {r : Option Nat} {ns : Nat}
def ExecS (P : Program) (r : Option Nat) (ns : Nat) (ops : Array Oper) : Nat → List Oper → St → (Nat → St → Prop) → Prop
  | n, [], s, Q => Q n s
  | n, o :: l, s, Q => guardS ops ns s o = some true ∧ ∃ G, StepI P r ns n s o G ∧ ∀ n' s', G n' s' → ExecS P r ns ops n' l s' Q
theorem execS_list {W0 : Fix} {R0 : Nat → Prop} {B : Nat} (hi : InAct r W0 R0 B) {ops : Array Oper} {Q : Exit → Act → World → Prop} : ∀ (l : List Oper) (n : Nat) {s : St} {E : Env} {a : Act} {w : World} {Q' : Nat → St → Prop}, ExecS P r ns ops n l s Q' →
    Sim W0 R0 ns (· < n) s E a w → (∀ n' s' E' a' w', Sim W0 R0 ns (· < n') s' E' a' w' → Q' n' s' → Q .normal a' w') → wpListIn (fen (rOf W0 r)) 0 P ops Q l a w
  | [], n, s, E, a, w, Q', h, hs, hQ => hQ n s E a w hs h
  | o :: l, n, s, E, a, w, Q', ⟨hg, G, h1, h2⟩, hs, hQ => by
    refine wpListIn_step fun K hK => ?_
    rw [guard_ok hs hg, if_pos rfl]
    exact h1 W0 R0 B E a w hi hs (guardS_dst hg) K Q fun n' s' E' a' w' hG hs' => hK _ _ (execS_list hi l n' (h2 n' s' hG) hs' hQ)
theorem AWi.regionS {id n : Nat} {s : St} {Q : Post} {l : List Oper} (h : ExecS P r ns l.toArray n l s (fun n' s' => Q .normal n' s')) : AWi P r ns (.region id l.toArray false) n s Q :=
  fun W0 _ _ _ _ _ hi hs => wpIn_region_lit (execS_list hi l n h hs fun n' s' E' _ _ h1 h2 => ⟨n', s', E', W0, Ext.refl _, hi, h1, h2⟩)
section
variable {ops : Array Oper} {o : Oper} {l : List Oper} {n : Nat} {s : St} {Q : Nat → St → Prop}
theorem ExecS.plain (hT : TabOk P T) {out : Out} (hg : guardS ops ns s o = some true) (hw : waits o.op = false) (hx : aop T s.mem n (opd ns s) o.op = some out) (h : ExecS P r ns ops (n + 1) l (putS s n o.dst out) Q) : ExecS P r ns ops n (o :: l) s Q :=
  ⟨hg, fun n' s' => n' = n + 1 ∧ s' = putS s n o.dst out, fun W0 R0 B E a w hi hs hd K Q' hK =>
    oper_in (noDefer_spec (aop_noDefer hx) List.mem_cons_self) (step_wp hT hs (nid := n) (by omega) (N := n) (fun _ h => h) hd ((step_plain hw).2 hx) fun E' a' w' hs' => hK _ _ E' a' w' ⟨rfl, rfl⟩ (hs'.weak fun i hi => by omega)), fun n' s' ⟨e1, e2⟩ => by rw [e1, e2]; exact h⟩
theorem ExecS.slice (hT : TabOk P T) {t e : TypeId} {x : Operand} {i ie : TI} {N id j : Nat} (ho : o.op = .slice t x none none none) (hg : guardS ops ns s o = some true) (hi : T t = some i) (hk : i.kind = .array N e) (hie : T e = some ie) (hN : 0 < N) (hx : opd ns s x = some (.ptr id 0 j))
    (h : ExecS P r ns ops n l ⟨setSlot s.slots o.dst (.sl id j N (some N)), s.mem⟩ Q) : ExecS P r ns ops n (o :: l) s Q :=
  ⟨hg, fun n' s' => n' = n ∧ s' = ⟨setSlot s.slots o.dst (.sl id j N (some N)), s.mem⟩, fun W0 R0 B E a w hin hs hd K Q' hK => by
    have hr := hs.opd hx
    have hc : sliceC T i (.ptr id 0 j) none none none = some (.sl id j N (some N)) := by
      have hN' : ¬ (N : Int) = 0 := by omega
      simp [sliceC, hk, hie, hN']
    obtain ⟨z, h1, h2⟩ := sliceC_run (w := w) hT hi Bd.none Bd.none Bd.none hc hr
    refine oper_in (fun c e => by rw [ho] at e; cases e) ?_
    unfold Oper.wp
    have he : (execOp a.eval o).run P w = .ok (.value z) w := by
      simp only [execOp, ho, Sem.run_bind]
      simp [h1]
    rw [he]
    exact hK n _ E _ w ⟨rfl, rfl⟩ (hs.put hd h2), fun n' s' ⟨e1, e2⟩ => by rw [e1, e2]; exact h⟩
theorem ExecS.clear (hT : TabOk P T) {t e ty : TypeId} {x : Operand} {c : Call} {i ie : TI} {N id j cp : Nat} {cells : List SV} (ho : o.op = .call c) (hc1 : c.callee = .builtin .clear) (hc2 : c.args.toList = [x]) (hc3 : c.argTypes.toList = [t]) (hg : guardS ops ns s o = some true) (hi : T t = some i) (hk : i.kind = .slice e) (hie : T e = some ie) (hN : 0 < N) (hx : opd ns s x = some (.sl id j N (some cp))) (hm : s.mem id = some (.box ty cells false)) (hle : j + N * ie.size ≤ cells.length)
    (h : ExecS P r ns ops n l ⟨setSlot s.slots o.dst (.tup []), setMem s.mem id (some (.box ty (splice cells j (zerosC ie (N * ie.size))) false))⟩ Q) : ExecS P r ns ops n (o :: l) s Q :=
  ⟨hg, fun n' s' => n' = n ∧ s' = ⟨setSlot s.slots o.dst (.tup []), setMem s.mem id (some (.box ty (splice cells j (zerosC ie (N * ie.size))) false))⟩, fun W0 R0 B E a w hin hs hd K Q' hK => by
    rw [call_eq hc1 hc2 hc3] at ho
    have hr := hs.opd hx
    have hu := slice_und (hT t i hi) hk
    obtain ⟨inf, z0, i1, i4, i2, i3, hzs, hz⟩ := zeros_reps (E := E) (w := w) hT hie
    obtain ⟨u, hu'⟩ : ∃ u, a.eval x = u := ⟨_, rfl⟩
    rw [hu'] at hr
    cases hr with
    | sl _ _ _ _ q0 cd hdm hcd hq hnd =>
    obtain rfl := (hq (.inl hN)).symm
    have hro : ¬ E.ro (E.home id).blk := fun k => by have := (hs.frz id _ hm).2 k; cases this
    cases hs.mem id _ hm with
    | box _ _ _ cur h1 h2 h3 h4 =>
    have hR := hz (N * ie.size)
    have hlen : (madeCells z0.cells (N * ie.size)).toList.length = N * ie.size := by simp [size_madeCells]
    have hst := run_storeCells_at P (E.home id).blk j ty (madeCells z0.cells (N * ie.size)).toList 0 cur w h1 (by rw [hlen]; omega) hR.ones
    simp only [Nat.add_zero] at hst
    have hzv : (zeroValue e).run P w = .ok z0 w := by simp [zeroValue, typeInfo, i1, i4]
    have hzc : Builtin.zeroCells z0.cells N = madeCells z0.cells (N * ie.size) := by unfold Builtin.zeroCells madeCells; rw [hzs]
    obtain ⟨q, rfl⟩ : ∃ q, N = q + 1 := ⟨N - 1, by omega⟩
    have hrun : (Builtin.clear_ #[t] o.type #[.slice (some ⟨(E.home id).blk, j, none⟩) (q + 1) cd]).run P w = .ok (.tuple #[]) (w.setRow (E.home id).blk (cur.toList.take j ++ (madeCells z0.cells ((q + 1) * ie.size)).toList ++ cur.toList.drop (j + (madeCells z0.cells ((q + 1) * ie.size)).toList.length)).toArray) := by
      simp [Builtin.clear_, run_underlying hu, hzv, hzc]
      simp at hst
      rw [hst]
      simp
    have he : (execOp a.eval o).run P w = .ok (.value (.tuple #[])) (w.setRow (E.home id).blk (cur.toList.take j ++ (madeCells z0.cells ((q + 1) * ie.size)).toList ++ cur.toList.drop (j + (madeCells z0.cells ((q + 1) * ie.size)).toList.length)).toArray) := by
      simp only [execOp, ho, resolve, invoke, builtin, Sem.run_bind, Sem.run_pure, Result.andThen_ok, List.map_toArray, List.map_cons, List.map_nil, hu', hrun]
    have hw : ∀ b, E.ro b → (w.setRow (E.home id).blk (cur.toList.take j ++ (madeCells z0.cells ((q + 1) * ie.size)).toList ++ cur.toList.drop (j + (madeCells z0.cells ((q + 1) * ie.size)).toList.length)).toArray).heap[b]? = w.heap[b]? := fun b hb => setRow_other _ _ _ _ (fun e => hro (e ▸ hb))
    have hC : Reps E w cells cur.toList := ⟨by simpa using h2, h3, fun i c v hc hv => h4 i c v hc (by simpa using hv)⟩
    have hS := (hC.keep (Env.le.refl E) hw).splice (hR.keep (Env.le.refl E) hw) j (by rw [zerosC_len]; exact hle) (cur.toList.take j ++ (madeCells z0.cells ((q + 1) * ie.size)).toList ++ cur.toList.drop (j + (madeCells z0.cells ((q + 1) * ie.size)).toList.length)).toArray (by simp [size_madeCells]; omega) fun k => by
      rw [splice_at cur _ j (by rw [hlen]; omega)]
      by_cases q1 : j ≤ k ∧ k < j + (madeCells z0.cells ((q + 1) * ie.size)).toList.length
      · rw [if_pos q1, if_pos ⟨q1.1, q1.2, by rw [hlen] at q1; simp; omega⟩]
      · rw [if_neg q1, if_neg (fun q' => q1 ⟨q'.1, q'.2.1⟩)]; simp
    have h6 : Sim W0 R0 ns (· < n) ⟨s.slots, setMem s.mem id (some (.box ty (splice cells j (zerosC ie ((q + 1) * ie.size))) false))⟩ E a (w.setRow (E.home id).blk (cur.toList.take j ++ (madeCells z0.cells ((q + 1) * ie.size)).toList ++ cur.toList.drop (j + (madeCells z0.cells ((q + 1) * ie.size)).toList.length)).toArray) :=
      hs.write hm rfl rfl (grown_setRow _ _ _) (.box ty _ _ _ (setRow_heap _ _ _ _ _ _ h1) (by simpa using hS.1) hS.2.1 fun i c v hc hv => hS.2.2 i c v hc (by simpa using hv))
    refine oper_in (fun c e => by rw [ho] at e; cases e) ?_
    unfold Oper.wp
    rw [he]
    exact hK n _ E _ _ ⟨rfl, rfl⟩ (h6.put hd (.tup [] #[] rfl (by simp))), fun n' s' ⟨e1, e2⟩ => by rw [e1, e2]; exact h⟩
end
end Go.Proofs.Ytdkneonokbakjaa.Eng

noncomputable section
namespace Go.Proofs.Ytdkneonokbakjaa.Eng
open Go.RowKit
set_option maxRecDepth 100000
set_option maxHeartbeats 8000000
theorem whS_congr {s : RS} {ps : List Int} {A B : Rgs} (h : ∀ j, j < 12 → A j = B j) : whS s ps A = whS s ps B := by
  have e : ∀ A : Rgs, spS A = [.d (iD (A 0).1), .d (iD (A 0).2), .d (iD (A 1).1), .d (iD (A 1).2), .d (iD (A 2).1), .d (iD (A 2).2), .d (iD (A 3).1), .d (iD (A 3).2), .d (iD (A 4).1), .d (iD (A 4).2), .d (iD (A 5).1), .d (iD (A 5).2), .d (iD (A 6).1), .d (iD (A 6).2), .d (iD (A 7).1), .d (iD (A 7).2), .d (iD (A 8).1), .d (iD (A 8).2), .d (iD (A 9).1), .d (iD (A 9).2), .d (iD (A 10).1), .d (iD (A 10).2), .d (iD (A 11).1), .d (iD (A 11).2)] := fun _ => rfl
  unfold whS
  rw [e A, e B, h 0 (by decide), h 1 (by decide), h 2 (by decide), h 3 (by decide), h 4 (by decide), h 5 (by decide), h 6 (by decide), h 7 (by decide), h 8 (by decide), h 9 (by decide), h 10 (by decide), h 11 (by decide)]
theorem WhAt.congr {s : RS} {ps : List Int} {A B : Rgs} {w : Nat} {m : Mem} (h : WhAt s ps A w m) (hb : ∀ j, j < 12 → B j = A j) : WhAt s ps B w m := by
  unfold WhAt
  rw [whS_congr hb]
  exact h
theorem WhAt.only {s : RS} {ps : List Int} {A : Rgs} {w : Nat} {m : Mem} (h : WhAt s ps A w m) : WhAt s ps A w (only m [w]) := by
  show Eng.only m [w] w = _
  rw [only_at, if_pos List.mem_cons_self]
  exact h
theorem wh_put (s : RS) (ps : List Int) (A : Rgs) {k : Nat} (hk : k < 12) (a b : Int) : List.take (6 + k * 2) (whS s ps A) ++ .d (iD a) :: .d (iD b) :: List.drop (6 + k * 2 + 2) (whS s ps A) = whS s ps fun j => if j = k then (a, b) else A j := by
  have h : ∀ p : Fin 12, List.take (6 + p.1 * 2) (whS s ps A) ++ .d (iD a) :: .d (iD b) :: List.drop (6 + p.1 * 2 + 2) (whS s ps A) = whS s ps fun j => if j = p.1 then (a, b) else A j := by
    intro p
    match p with
    | ⟨0, _⟩ => rfl
    | ⟨1, _⟩ => rfl
    | ⟨2, _⟩ => rfl
    | ⟨3, _⟩ => rfl
    | ⟨4, _⟩ => rfl
    | ⟨5, _⟩ => rfl
    | ⟨6, _⟩ => rfl
    | ⟨7, _⟩ => rfl
    | ⟨8, _⟩ => rfl
    | ⟨9, _⟩ => rfl
    | ⟨10, _⟩ => rfl
    | ⟨11, _⟩ => rfl
  exact h ⟨k, hk⟩
theorem use_w {s : RS} {ps : List Int} {A : Rgs} {w : Nat} {m : Mem} (hm : WhAt s ps A w m) (ok : StoOk s ps) (Y : SV) (hY : FnV Y) (mt : Nat → Bool) (n : Nat) (hw : w < n)
    (hM : ∀ p, p < ps.length → ∀ (n' : Nat) (m' : Mem) (B : Rgs), n ≤ n' → WhAt s ps B w m' → (∀ j, j < n → j ≠ w → m' j = m j) → YCall Try.prog Y [.d (iD p)] n' m' fun y n'' m'' => n' ≤ n'' ∧ y = .d (bD (mt p)) ∧ ∀ j, j < n' → m'' j = m' j) :
    CWp Try.prog 84 [.ptr w 0 0, Y] n m fun y n' m' => n ≤ n' ∧ y = .tup [] ∧ WhAt s ps (allR s ps mt) w m' ∧ ∀ j, j < n → j ≠ w → m' j = m j := by
  obtain ⟨hY1, hY2⟩ := hY
  have n2 := ok.n2
  have hl := whS_len s ps
  have hz : splice (whS s ps A) 6 (zerosC { size := 2, bytes := 16, zero := [.int .i64 0, .int .i64 0], kind := .struct [(0, 2), (1, 2)], eqk := [.i64, .i64] } (12 * 2)) = whS s ps fun _ => (0, 0) := by rfl
  refine cwpK tabOk Try.func84 rfl rfl (show 2 ≤ _ by decide) rfl fun _ => ?_; simp only [Try.ntmps84]
  refine AWi.seqK fun _ => ?_
  refine AWi.regionS ?_
  refine ExecS.plain tabOk (out := { res := .ptr w 0 0 }) rfl rfl (by simp [-getElem?_pos, z0, z1, z2]) ?_
  refine ExecS.plain tabOk (out := { res := .ptr w 0 0 }) rfl rfl (by simp [-getElem?_pos, z0, z1, z2, hm]) ?_
  refine ExecS.plain tabOk (out := { res := .ptr w 0 6 }) rfl rfl (by simp [-getElem?_pos, z0, z1, z2, hm]) ?_
  refine ExecS.slice tabOk (N := 12) (id := w) (j := 6) rfl rfl (TB81) rfl (TB23) (by decide) (by simp [-getElem?_pos, z0, z1, z2]) ?_
  refine ExecS.clear tabOk (ty := 83) (N := 12) (id := w) (j := 6) (cp := 12) (cells := whS s ps A) rfl rfl rfl rfl rfl (TB74) rfl (TB23) (by decide) (by simp [-getElem?_pos, z0, z1, z2]) (by simp [putS, hm]) (by simp) ?_
  rw [show splice _ _ _ = _ from hz]
  simp [putS, ExecS]
  with_reducible refine KI.go ?_
  repeat (first | (with_reducible first | refine AWi.seqK fun _ => ?_ | refine AWi.blockK fun _ => ?_ | refine KI.go ?_) | ((first | refine AWi.region tabOk ?_ | refine AWi.condK fun _ _ => ?_ | refine AWi.draws tabOk rfl (by kernel_rfl) (by kernel_rfl) ?_); simp [-getElem?_pos, z0, z1, z2, hl]) | ((first | refine AWi.ret ?_ | refine AWi.skip ?_ | refine AWi.exit ?_); try simp only [thenP]) | (with_reducible refine BB.go ?_; simp only [blockP, thenP, reduceIte]) | (with_reducible refine And.intro (okLog_c (by simp [footOf, guardSlot, slotsOf, idsRead, looks, idsOf, idsOf1, idsWritten, colF]; kernel_rfl)) ?_))
  refine AWi.loopK (fun (k : Nat) n1 t => n ≤ n1 ∧ k ≤ ps.length ∧ t.slots 0 = .ptr w 0 0 ∧ t.slots 1 = Y ∧ t.slots 13 = .d (iD ps.length) ∧ t.slots 14 = .d (iD k) ∧ WhAt s ps (fun j => if j < k then allR s ps mt j else (0, 0)) w t.mem ∧ ∀ j, j < n → j ≠ w → t.mem j = m j) (fun k => ps.length - k) 0 ?_ ?_
  · refine ⟨by omega, Nat.zero_le _, by simp, by simp, by simp [iD], by simp [iD], ?_, fun j h1 h2 => ?_⟩
    · exact if_pos rfl
    · simp [h2]
  rintro k n1 t ⟨r0, r1, t0, t1, t13, t14, tm, tl⟩ kk
  have w1 : IntKind.i64.wrap ((k : Int) + 1) = (k : Int) + 1 := wrap64_in (by omega)
  by_cases hlt : k < ps.length
  · have hii : (k : Int) < ps.length := by omega
    obtain ⟨tu, htu⟩ : ∃ tu, ps[k]? = some tu := ⟨_, List.getElem?_eq_getElem hlt⟩
    repeat (first | (with_reducible first | refine AWi.seqK fun _ => ?_ | refine AWi.blockK fun _ => ?_ | refine KI.go ?_) | ((first | refine AWi.region tabOk ?_ | refine AWi.condK fun _ _ => ?_); simp [-getElem?_pos, z0, z1, z2, t0, t1, t13, t14, hii]) | ((first | refine AWi.ret ?_ | refine AWi.skip ?_ | refine AWi.exit ?_); try simp only [thenP]) | (with_reducible refine BB.go ?_; simp only [blockP, thenP, reduceIte]))
    refine ExecI.callY (Y := Y) (xs := [.d (iD k)]) (hM k hlt _ _ _ (by omega) tm tl) (by simp [-getElem?_pos, z0, z1, z2]) (by simp [calleeV, evList]) ?_
    rintro y n2 m2 ⟨q1, rfl, q3⟩
    have tm2 : WhAt s ps (fun j => if j < k then allR s ps mt j else (0, 0)) w m2 := (q3 w (by omega)).trans tm
    have hall : allR s ps mt k = if mt k then spR s tu else (0, 0) := by rw [allR, htu]
    cases hmt : mt k with
    | false =>
      rw [hmt] at hall
      simp [-getElem?_pos, z0, z1, z2]
      repeat (first | (with_reducible first | refine AWi.seqK fun _ => ?_ | refine AWi.blockK fun _ => ?_ | refine KI.go ?_) | ((first | refine AWi.region tabOk ?_ | refine AWi.condK fun _ _ => ?_); simp [-getElem?_pos, z0, z1, z2, t14, w1]) | ((first | refine AWi.ret ?_ | refine AWi.skip ?_ | refine AWi.exit ?_); try simp only [thenP]) | (with_reducible refine BB.go ?_; simp only [blockP, thenP, reduceIte]))
      refine LI.go (k + 1) ⟨by omega, hlt, by simp [t0], by simp [t1], by simp [t13], by simp [iD], tm2.congr fun j _ => ?_, fun j h1 h2 => (q3 j (by omega)).trans (tl j h1 h2)⟩ (by omega)
      by_cases h1 : j < k
      · rw [if_pos h1, if_pos (by omega)]
      · by_cases h2 : j = k
        · subst h2; rw [if_pos (by omega), if_neg h1, hall]; rfl
        · rw [if_neg h1, if_neg (by omega)]
    | true =>
      rw [hmt, if_pos rfl] at hall
      simp [-getElem?_pos, z0, z1, z2]
      repeat (first | (with_reducible first | refine AWi.seqK fun _ => ?_ | refine AWi.blockK fun _ => ?_ | refine KI.go ?_) | ((first | refine AWi.region tabOk ?_ | refine AWi.condK fun _ _ => ?_); simp [-getElem?_pos, z0, z1, z2, t0, t14, tm2]) | ((first | refine AWi.ret ?_ | refine AWi.skip ?_ | refine AWi.exit ?_); try simp only [thenP]) | (with_reducible refine BB.go ?_; simp only [blockP, thenP, reduceIte]))
      have hk12 : k < 12 := by omega
      have hk12i : (k : Int) < 12 := by omega
      have hput := wh_put s ps (fun j => if j < k then allR s ps mt j else (0, 0)) hk12 (spR s tu).1 (spR s tu).2
      have hwn2 : w < n2 := by omega
      have hle : 6 + k * 2 + 2 ≤ 30 := by omega
      refine AWi.drawsT tabOk mixedR 8 (by kernel_rfl) (by kernel_rfl) ?_
      simp only [List.take_succ_cons, List.take_zero, List.drop_succ_cons, List.drop_zero]
      repeat (with_reducible refine ExecV.auto tabOk ?_; simp [-getElem?_pos, z0, z1, z2, kindV, isPure, t0, tm2, hwn2]; try (refine And.intro (OkV_old (by simp; try omega) (by omega) (by simp [AllAcc])) ?_))
      refine ExecV.ro (x := .agg [.d (iD (spR s tu).1), .d (iD (spR s tu).2)]) (d := rngD (spR s tu)) (svs := [.ptr w 0 0, .d (iD k)]) [w] (RCall.of3 (n0 := w + 1) fun nn hnn => span_w (A := fun j => if j < k then allR s ps mt j else (0, 0)) tm2.only ok.g htu (ok.turn htu) nn (by omega)) rfl rfl (by simp [calleeS, evList]) (OkV_old (by simp; try omega) (by omega) (by simp [AllAcc])) ?_
      repeat (with_reducible refine ExecV.auto tabOk ?_; simp [-getElem?_pos, z0, z1, z2, kindV, isPure, t0, tm2, hwn2, hk12, hk12i, hl, hle]; try (refine And.intro (OkV_old (by simp; try omega) (by omega) (by simp [AllAcc])) ?_))
      unfold ExecV
      simp [-getElem?_pos, z0, z1, z2, tm2, hle, hput]
      repeat (first | (with_reducible first | refine AWi.seqK fun _ => ?_ | refine AWi.blockK fun _ => ?_ | refine KI.go ?_) | ((first | refine AWi.region tabOk ?_ | refine AWi.condK fun _ _ => ?_); simp [-getElem?_pos, z0, z1, z2, t14, w1]) | ((first | refine AWi.ret ?_ | refine AWi.skip ?_ | refine AWi.exit ?_); try simp only [thenP]) | (with_reducible refine BB.go ?_; simp only [blockP, thenP, reduceIte]))
      refine LI.go (k + 1) ⟨by omega, hlt, by simp [t0], by simp [t1], by simp [t13], by simp [iD], WhAt.congr (A := fun j => if j = k then ((spR s tu).1, (spR s tu).2) else if j < k then allR s ps mt j else (0, 0)) (if_pos rfl) fun j _ => ?_, fun j h1 h2 => (if_neg h2).trans ((q3 j (by omega)).trans (tl j h1 h2))⟩ (by omega)
      by_cases h1 : j < k
      · rw [if_pos (by omega), if_neg (by omega), if_pos h1]
      · by_cases h2 : j = k
        · subst h2; rw [if_pos (by omega), if_pos rfl, hall]
        · rw [if_neg (by omega), if_neg h2, if_neg h1]
  · obtain rfl : k = ps.length := by omega
    repeat (first | (with_reducible first | refine AWi.seqK fun _ => ?_ | refine AWi.blockK fun _ => ?_ | refine KI.go ?_) | ((first | refine AWi.region tabOk ?_ | refine AWi.condK fun _ _ => ?_); simp [-getElem?_pos, z0, z1, z2, t13, t14]) | ((first | refine AWi.ret ?_ | refine AWi.skip ?_ | refine AWi.exit ?_); try simp only [thenP]) | (with_reducible refine BB.go ?_; simp only [blockP, thenP, reduceIte]))
    refine RI.normal rfl ⟨by omega, rfl, WhAt.congr (m := t.mem) tm fun j _ => ?_, tl⟩
    by_cases h1 : j < ps.length
    · rw [if_pos h1]
    · rw [if_neg h1, allR, List.getElem?_eq_none (by omega)]
theorem newWheel_w {s : RS} {ps : List Int} (ok : StoOk s ps) (n : Nat) (m : Mem) :
    CWp Try.prog 74 [.agg (sto5 s), .d (intL ps)] n m fun y n' m' => n ≤ n' ∧ (∃ w, n ≤ w ∧ w < n' ∧ y = .ptr w 0 0 ∧ WhAt s ps (allR s ps fun _ => true) w m') ∧ ∀ j, j < n → m' j = m j := by
  refine cwpK tabOk Try.func74 rfl rfl (show 2 ≤ _ by decide) rfl fun _ => ?_; simp only [Try.ntmps74]
  repeat (first | (with_reducible first | refine AWi.seqK fun _ => ?_ | refine AWi.blockK fun _ => ?_ | refine KI.go ?_) | ((first | refine AWi.region tabOk ?_ | refine AWi.condK fun _ _ => ?_); simp [-getElem?_pos, z0, z1, z2, z0]) | ((first | refine AWi.ret ?_ | refine AWi.skip ?_ | refine AWi.exit ?_); try simp only [thenP]) | (with_reducible refine BB.go ?_; simp only [blockP, thenP, reduceIte]))
  refine ExecI.callC (use_w (s := s) (ps := ps) (A := fun _ => (0, 0)) (w := n + 1 + 1 + 1 + 1 + 1) (if_pos rfl) ok (.fn 50 [.ptr (n + 1 + 1 + 1 + 1 + 1) 0 0] []) ⟨rfl, rfl⟩ (fun _ => true) _ (by omega) fun p hp n' m' B h1 h2 _ => YCall.fn ((isPulley_w h2 p n').mono fun y n2 m2 ⟨q1, _, e1, e2⟩ => ⟨q1, by rw [e1, decide_eq_true (by omega)], fun _ _ => by rw [e2]⟩)) rfl (by simp [calleeS, evList]) ?_
  rintro y n2 m2 ⟨q1, rfl, q3, q4⟩
  simp
  repeat (first | (with_reducible first | refine AWi.seqK fun _ => ?_ | refine AWi.blockK fun _ => ?_ | refine KI.go ?_) | ((first | refine AWi.region tabOk ?_ | refine AWi.condK fun _ _ => ?_); simp [-getElem?_pos, z0, z1, z2, z0]) | ((first | refine AWi.ret ?_ | refine AWi.skip ?_ | refine AWi.exit ?_); try simp only [thenP]) | (with_reducible refine BB.go ?_; simp only [blockP, thenP, reduceIte]))
  refine RI.ret rfl ⟨by omega, ⟨_, by omega, by omega, rfl, q3⟩, fun j hj => (q4 j (by omega) (by omega)).trans (by (try dsimp only); repeat (first | rw [setMem_lt (by omega)] | rw [putN_lt (by omega)]))⟩
def whP (s : RS) (ps : List Int) (n n' : Nat) (m m' : Mem) (y : SV) : Prop := if stoE s ps = 0 then ∃ w, n ≤ w ∧ w < n' ∧ y = .tup [.ptr w 0 0, .d (iD 0)] ∧ WhAt s ps (allR s ps fun _ => true) w m' else y = .tup [.d (.val (.pointer none)), .d (iD (stoE s ps))]
theorem check_w (s : RS) (ps : List Int) (hl : ps.length ≤ 1000000) (n : Nat) (m : Mem) :
    CWp Try.prog 49 [.agg (sto5 s), .d (intL ps)] n m fun y n' m' => n ≤ n' ∧ whP s ps n n' m m' y ∧ ∀ j, j < n → m' j = m j := by
  have cs := checkStone_c s ps hl
  by_cases h0 : stoE s ps = 0
  · rw [h0] at cs
    refine cwpK tabOk Try.func49 rfl rfl (show 2 ≤ _ by decide) rfl fun _ => ?_; simp only [Try.ntmps49]
    repeat (first | (with_reducible first | refine AWi.seqK fun _ => ?_ | refine AWi.blockK fun _ => ?_ | refine KI.go ?_) | ((first | refine AWi.region tabOk ?_ | refine AWi.condK fun _ _ => ?_); simp [-getElem?_pos, z0, z1, z2, z0]) | ((first | refine AWi.ret ?_ | refine AWi.skip ?_ | refine AWi.exit ?_); try simp only [thenP]) | (with_reducible refine BB.go ?_; simp only [blockP, thenP, reduceIte]))
    refine ExecI.call [] cs ?_ rfl ?_ ?_; (focus simp [-getElem?_pos, ]); (focus simp [-getElem?_pos, z0, z1, z2, ]); simp [-getElem?_pos, z0, z1, z2, ]
    repeat (first | (with_reducible first | refine AWi.seqK fun _ => ?_ | refine AWi.blockK fun _ => ?_ | refine KI.go ?_) | ((first | refine AWi.region tabOk ?_ | refine AWi.condK fun _ _ => ?_); simp [-getElem?_pos, z0, z1, z2, z0]) | ((first | refine AWi.ret ?_ | refine AWi.skip ?_ | refine AWi.exit ?_); try simp only [thenP]) | (with_reducible refine BB.go ?_; simp only [blockP, thenP, reduceIte]))
    refine ExecI.callC (newWheel_w (stoE_ok.1 h0) _ _) rfl (by simp [calleeS, evList]) ?_
    rintro y n2 m2 ⟨q1, ⟨w, h1, h2, rfl, h3⟩, q4⟩
    simp
    repeat (first | (with_reducible first | refine AWi.seqK fun _ => ?_ | refine AWi.blockK fun _ => ?_ | refine KI.go ?_) | ((first | refine AWi.region tabOk ?_ | refine AWi.condK fun _ _ => ?_); simp [-getElem?_pos, z0, z1, z2, z0]) | ((first | refine AWi.ret ?_ | refine AWi.skip ?_ | refine AWi.exit ?_); try simp only [thenP]) | (with_reducible refine BB.go ?_; simp only [blockP, thenP, reduceIte]))
    refine RI.ret rfl ⟨by omega, ?_, fun j hj => (q4 j (by omega)).trans (by (try dsimp only); repeat (first | rw [setMem_lt (by omega)] | rw [putN_lt (by omega)]))⟩
    rw [whP, if_pos h0]
    exact ⟨w, by omega, by omega, rfl, h3⟩
  · refine cwpK tabOk Try.func49 rfl rfl (show 2 ≤ _ by decide) rfl fun _ => ?_; simp only [Try.ntmps49]
    repeat (first | (with_reducible first | refine AWi.seqK fun _ => ?_ | refine AWi.blockK fun _ => ?_ | refine KI.go ?_) | ((first | refine AWi.region tabOk ?_ | refine AWi.condK fun _ _ => ?_); simp [-getElem?_pos, z0, z1, z2, z0]) | ((first | refine AWi.ret ?_ | refine AWi.skip ?_ | refine AWi.exit ?_); try simp only [thenP]) | (with_reducible refine BB.go ?_; simp only [blockP, thenP, reduceIte]))
    refine ExecI.call [] cs ?_ rfl ?_ ?_; (focus simp [-getElem?_pos, ]); (focus simp [-getElem?_pos, z0, z1, z2, ]); simp [-getElem?_pos, z0, z1, z2, ]
    repeat (first | (with_reducible first | refine AWi.seqK fun _ => ?_ | refine AWi.blockK fun _ => ?_ | refine KI.go ?_) | ((first | refine AWi.region tabOk ?_ | refine AWi.condK fun _ _ => ?_); simp [-getElem?_pos, z0, z1, z2, h0]) | ((first | refine AWi.ret ?_ | refine AWi.skip ?_ | refine AWi.exit ?_); try simp only [thenP]) | (with_reducible refine BB.go ?_; simp only [blockP, thenP, reduceIte]))
    refine RI.ret rfl ⟨by omega, ?_, fun j hj => by (try dsimp only); repeat (first | rw [setMem_lt (by omega)] | rw [putN_lt (by omega)])⟩
    rw [whP, if_neg h0]
    rfl
end Go.Proofs.Ytdkneonokbakjaa.Eng

noncomputable section
namespace Go.Proofs.Ytdkneonokbakjaa.Eng
open Go.RowKit
set_option maxRecDepth 100000
set_option maxHeartbeats 8000000
theorem spR_zero {s : RS} (hg : GoodR s) (t : Int) : ((spR s t).1 = 0 ∧ (spR s t).2 = 0) ↔ (betR s t).2 < (betR s t).1 := by
  have := hg.s1
  have h : s.short ≤ (betR s t).1 := by simp only [betR]; omega
  unfold spR
  by_cases g : (betR s t).2 < (betR s t).1
  · rw [if_pos g]; simp [g]
  · rw [if_neg g]
    constructor
    · rintro ⟨h1, -⟩; omega
    · exact fun h => absurd h g
theorem allR_true {s : RS} {ps : List Int} {k : Nat} {t : Int} (h : ps[k]? = some t) : allR s ps (fun _ => true) k = spR s t := by rw [allR, h]; rfl
theorem allowed_x (s : RS) (ps : List Int) (hl : ps.length ≤ 1000000) (p : Int) (n : Nat) (m : Mem) :
    CWp Try.prog 18 [.d (stoD s), .d (intL ps), .d (iD p)] n m fun y n' m' => toD4 y = some (.tup [rngD (allV s ps p), iD (allE s ps p)]) ∧ ∀ j, j < n → m' j = m j := by
  by_cases h0 : stoE s ps = 0
  · have ok := stoE_ok.1 h0
    have hg := ok.g
    have n2 := ok.n2
    refine cwpK tabOk Try.func18 rfl rfl (show 3 ≤ _ by decide) rfl fun _ => ?_; simp only [Try.ntmps18]
    repeat (first | (with_reducible first | refine AWi.seqK fun _ => ?_ | refine AWi.blockK fun _ => ?_ | refine KI.go ?_) | ((first | refine AWi.region tabOk ?_ | refine AWi.condK fun _ _ => ?_); simp [-getElem?_pos, z0, z1, z2, z0]) | ((first | refine AWi.ret ?_ | refine AWi.skip ?_ | refine AWi.exit ?_); try simp only [thenP]) | (with_reducible refine BB.go ?_; simp only [blockP, thenP, reduceIte]))
    refine ExecI.callC (check_w s ps hl _ _) rfl (by simp [calleeS, evList]) ?_
    rintro y n1 m1 ⟨q1, q2, q3⟩
    rw [whP, if_pos h0] at q2
    obtain ⟨w, q4, q5, rfl, hw⟩ := q2
    simp
    repeat (first | (with_reducible first | refine AWi.seqK fun _ => ?_ | refine AWi.blockK fun _ => ?_ | refine KI.go ?_) | ((first | refine AWi.region tabOk ?_ | refine AWi.condK fun _ _ => ?_); simp [-getElem?_pos, z0, z1, z2, z0]) | ((first | refine AWi.ret ?_ | refine AWi.skip ?_ | refine AWi.exit ?_); try simp only [thenP]) | (with_reducible refine BB.go ?_; simp only [blockP, thenP, reduceIte]))
    refine ExecI.callC (isPulley_w hw p _) rfl (by simp [calleeS, evList]) ?_
    rintro y n2' m2 ⟨q6, q7, rfl, rfl⟩
    have hlow : ∀ j, j < n → m2 j = m j := fun j hj => (q3 j (by omega)).trans (by (try dsimp only); repeat (first | rw [setMem_lt (by omega)] | rw [putN_lt (by omega)]))
    have hres : m2 (n + 1) = some (.box 23 [.d (iD 0), .d (iD 0)] false) := (q3 _ (by omega)).trans (by simp)
    by_cases hp : 0 ≤ p ∧ p < ps.length
    · rw [decide_eq_true hp]
      obtain ⟨k, rfl⟩ := Int.eq_ofNat_of_zero_le hp.1
      have hk : k < ps.length := by omega
      obtain ⟨t, ht⟩ : ∃ t, ps[k]? = some t := ⟨_, List.getElem?_eq_getElem hk⟩
      have hk12 : k < 12 := by omega
      have hk12i : (k : Int) < 12 := by omega
      have hat := wh_at s ps (allR s ps fun _ => true) hk12
      rw [allR_true ht] at hat
      have hle : 6 + k * 2 + 2 ≤ 30 := by omega
      have hE : allE s ps (k : Int) = if (betR s t).2 < (betR s t).1 then 5 else 0 := by rw [allE, if_pos h0, if_neg (by omega), Int.toNat_natCast, betA_at ht]
      have hV : allV s ps (k : Int) = if (betR s t).2 < (betR s t).1 then (0, 0) else betR s t := by
        rw [allV, hE, Int.toNat_natCast, betA_at ht]
        split <;> simp
      have hz := spR_zero hg t
      have hsp : ¬ (betR s t).2 < (betR s t).1 → spR s t = betR s t := fun h => by rw [spR, if_neg h]
      by_cases g : (betR s t).2 < (betR s t).1
      · obtain ⟨z1, z2⟩ := hz.2 g
        rw [if_pos g] at hE hV
        simp [-getElem?_pos, z0, z1, z2]
        repeat (first | (with_reducible first | refine AWi.seqK fun _ => ?_ | refine AWi.blockK fun _ => ?_ | refine KI.go ?_) | ((first | refine AWi.region tabOk ?_ | refine AWi.condK fun _ _ => ?_); simp [-getElem?_pos, z0, z1, z2, hw, hat, hk12, hk12i, hle, hres, z1, z2]) | ((first | refine AWi.ret ?_ | refine AWi.skip ?_ | refine AWi.exit ?_); try simp only [thenP]) | (with_reducible refine BB.go ?_; simp only [blockP, thenP, reduceIte]))
        refine RI.ret (xs := [.agg [.d (iD 0), .d (iD 0)], .d (iD 5)]) (by simp [Try.results18, resSlots, resSlot, hres]) ?_
        exact ⟨by rw [hE, hV]; rfl, fun j hj => Eq.trans (by (try dsimp only); repeat (first | rw [setMem_lt (by omega)] | rw [putN_lt (by omega)])) (hlow j hj)⟩
      · have hs2 := hsp g
        rw [if_neg g] at hE hV
        have z3 : ¬ ((betR s t).1 = 0 ∧ (betR s t).2 = 0) := fun h => by
          rw [hs2] at hz
          exact g (hz.1 h)
        rw [hs2] at hat
        generalize betR s t = r at *
        obtain ⟨x, y⟩ := r
        simp only at z3
        simp [-getElem?_pos, z0, z1, z2]
        have o1 : ¬ n = n2' + 6 := by omega
        repeat (first | (with_reducible first | refine AWi.seqK fun _ => ?_ | refine AWi.blockK fun _ => ?_ | refine KI.go ?_) | ((first | refine AWi.region tabOk ?_ | refine AWi.condK fun _ _ => ?_); simp [-getElem?_pos, z0, z1, z2, hw, hat, hk12, hk12i, hle, hres, z3, o1]) | ((first | refine AWi.ret ?_ | refine AWi.skip ?_ | refine AWi.exit ?_); try simp only [thenP]) | (with_reducible refine BB.go ?_; simp only [blockP, thenP, reduceIte]))
        refine RI.ret (xs := [.agg [.d (iD x), .d (iD y)], .d (iD 0)]) (by simp [Try.results18, resSlots, resSlot, hres]) ?_
        exact ⟨by rw [hE, hV]; rfl, fun j hj => Eq.trans (by (try dsimp only); repeat (first | rw [setMem_lt (by omega)] | rw [putN_lt (by omega)])) (hlow j hj)⟩
    · rw [decide_eq_false hp]
      have hE : allE s ps p = 3 := by rw [allE, if_pos h0, if_pos (by omega)]
      have hV : allV s ps p = (0, 0) := by rw [allV, hE, if_neg (by decide)]
      simp [-getElem?_pos, z0, z1, z2]
      repeat (first | (with_reducible first | refine AWi.seqK fun _ => ?_ | refine AWi.blockK fun _ => ?_ | refine KI.go ?_) | ((first | refine AWi.region tabOk ?_ | refine AWi.condK fun _ _ => ?_); simp [-getElem?_pos, z0, z1, z2, hres]) | ((first | refine AWi.ret ?_ | refine AWi.skip ?_ | refine AWi.exit ?_); try simp only [thenP]) | (with_reducible refine BB.go ?_; simp only [blockP, thenP, reduceIte]))
      refine RI.ret (xs := [.agg [.d (iD 0), .d (iD 0)], .d (iD 3)]) (by simp [Try.results18, resSlots, resSlot, hres]) ?_
      exact ⟨by rw [hE, hV]; rfl, fun j hj => Eq.trans (by (try dsimp only); repeat (first | rw [setMem_lt (by omega)] | rw [putN_lt (by omega)])) (hlow j hj)⟩
  · have hE : allE s ps p = stoE s ps := by rw [allE, if_neg h0]
    have hV : allV s ps p = (0, 0) := by rw [allV, hE, if_neg h0]
    rw [hE, hV]
    refine cwpK tabOk Try.func18 rfl rfl (show 3 ≤ _ by decide) rfl fun _ => ?_; simp only [Try.ntmps18]
    repeat (first | (with_reducible first | refine AWi.seqK fun _ => ?_ | refine AWi.blockK fun _ => ?_ | refine KI.go ?_) | ((first | refine AWi.region tabOk ?_ | refine AWi.condK fun _ _ => ?_); simp [-getElem?_pos, z0, z1, z2, z0]) | ((first | refine AWi.ret ?_ | refine AWi.skip ?_ | refine AWi.exit ?_); try simp only [thenP]) | (with_reducible refine BB.go ?_; simp only [blockP, thenP, reduceIte]))
    refine ExecI.callC (check_w s ps hl _ _) rfl (by simp [calleeS, evList]) ?_
    rintro y n1 m1 ⟨q1, q2, q3⟩
    rw [whP, if_neg h0] at q2
    subst q2
    have hlow : ∀ j, j < n → m1 j = m j := fun j hj => (q3 j (by omega)).trans (by (try dsimp only); repeat (first | rw [setMem_lt (by omega)] | rw [putN_lt (by omega)]))
    have hres : m1 (n + 1) = some (.box 23 [.d (iD 0), .d (iD 0)] false) := (q3 _ (by omega)).trans (by simp)
    simp
    repeat (first | (with_reducible first | refine AWi.seqK fun _ => ?_ | refine AWi.blockK fun _ => ?_ | refine KI.go ?_) | ((first | refine AWi.region tabOk ?_ | refine AWi.condK fun _ _ => ?_); simp [-getElem?_pos, z0, z1, z2, h0, hres]) | ((first | refine AWi.ret ?_ | refine AWi.skip ?_ | refine AWi.exit ?_); try simp only [thenP]) | (with_reducible refine BB.go ?_; simp only [blockP, thenP, reduceIte]))
    refine RI.ret (xs := [.agg [.d (iD 0), .d (iD 0)], .d (iD (stoE s ps))]) (by simp [Try.results18, resSlots, resSlot, hres]) ?_
    exact ⟨rfl, fun j hj => Eq.trans (by (try dsimp only); repeat (first | rw [setMem_lt (by omega)] | rw [putN_lt (by omega)])) (hlow j hj)⟩
theorem allowed_c (s : RS) (ps : List Int) (hl : ps.length ≤ 1000000) (p : Int) : ACall Try.prog 18 [stoD s, intL ps, iD p] (.tup [rngD (allV s ps p), iD (allE s ps p)]) :=
  ACall.ofR (RCall.of4 (n0 := 0) fun n _ => (allowed_x s ps hl p n _).mono fun _ _ _ h => h)
end Go.Proofs.Ytdkneonokbakjaa.Eng

noncomputable section
namespace Go.Proofs.Ytdkneonokbakjaa.Eng
open Go.RowKit
set_option maxRecDepth 100000
set_option maxHeartbeats 8000000
theorem AWi.scope0 {P : Program} {r : Option Nat} {ns n : Nat} {c : Code} {s : St} {Q : Post} (h : AWi P r ns c n s (fun e n s => (∀ l, e ≠ .goto l) ∧ Q e n s)) : AWi P r ns (.scope c) n s Q :=
  AWi.scope (AWs.of (h.mono fun e n s ⟨h1, h2⟩ => by
    cases e with
    | goto l => exact absurd rfl (h1 l)
    | _ => exact h2))
section
variable {P : Program} {r : Option Nat} {ops : Array Oper} {ns n : Nat} {o : Oper} {l : List Oper} {s : St} {Q : Nat → St → Prop}
theorem ExecS.bigeq {T0 : QTab} (hQ : QTabOk P T0) {t tt : TypeId} {x y : Operand} {X Y z0 : SV} (ho : o.op = .binOp .eql t x y tt) (hg : guardS ops ns s o = some true) (hx : opd ns s x = some X) (hy : opd ns s y = some Y) (h0 : bigEq T0 .eql t X Y = some z0)
    (h : ExecS P r ns ops n l ⟨setSlot s.slots o.dst z0, s.mem⟩ Q) : ExecS P r ns ops n (o :: l) s Q :=
  ⟨hg, fun n' s' => n' = n ∧ s' = ⟨setSlot s.slots o.dst z0, s.mem⟩, fun W0 R0 B E a w hin hs hd K Q' hK => by
    have hr1 := hs.opd hx
    have hr2 := hs.opd hy
    obtain ⟨z, h1, h2⟩ := bigEq_run hQ h0 hr1 hr2 x y
    refine oper_in (fun c e => by rw [ho] at e; cases e) ?_
    unfold Oper.wp
    have he : (execOp a.eval o).run P w = .ok (.value z) w := by
      simp only [execOp, ho, Sem.run_bind] at h1 ⊢
      simp [h1]
    rw [he]
    exact hK n _ E _ w ⟨rfl, rfl⟩ (hs.put hd h2), fun n' s' ⟨e1, e2⟩ => by rw [e1, e2]; exact h⟩
end
def endsL (A : Rgs) : List Int := (List.range 12).flatMap fun j => [(A j).1, (A j).2]
theorem spS_map (A : Rgs) : spS A = (endsL A).map (SV.d ∘ iD) := rfl
theorem cmpL_ints {per : List CK} (hper : ∀ i : Nat, per[i % per.length]? = some (.int .i64)) : ∀ (xs ys : List Int) (i : Nat), xs.length = ys.length → (∀ x ∈ xs, (Lit.int .i64 x).wf = true) → (∀ x ∈ ys, (Lit.int .i64 x).wf = true) → cmpL per i (xs.map (SV.d ∘ iD)) (ys.map (SV.d ∘ iD)) = some (decide (xs = ys))
  | [], [], i, _, _, _ => by simp [cmpL]
  | x :: xs, y :: ys, i, h, hx, hy => by
    have ih := cmpL_ints hper xs ys (i + 1) (by simpa using h) (fun a ha => hx a (List.mem_cons_of_mem _ ha)) fun a ha => hy a (List.mem_cons_of_mem _ ha)
    have h1 := hx x List.mem_cons_self
    have h2 := hy y List.mem_cons_self
    have e := hper i
    simp only [List.map_cons, Function.comp_apply, cmpL, e, ih, okCell, h1, h2, and_self, if_true, same, Option.some.injEq]
    rw [Bool.eq_iff_iff]
    simp
  | [], _ :: _, _, h, _, _ => by simp at h
  | _ :: _, [], _, h, _, _ => by simp at h
theorem wf64 {x : Int} (h1 : -9223372036854775808 ≤ x) (h2 : x ≤ 9223372036854775807) : (Lit.int .i64 x).wf = true := by
  have e1 : IntKind.i64.min = -9223372036854775808 := by decide
  have e2 : IntKind.i64.max = 9223372036854775807 := by decide
  simp only [Lit.wf, e1, e2, Bool.and_eq_true, decide_eq_true_eq]
  exact ⟨h1, h2⟩
theorem allR_in {s : RS} {ps : List Int} (ok : StoOk s ps) (j : Nat) : -1000000000 ≤ (allR s ps (fun _ => true) j).1 ∧ (allR s ps (fun _ => true) j).1 ≤ 2000000000 ∧ -1000000000 ≤ (allR s ps (fun _ => true) j).2 ∧ (allR s ps (fun _ => true) j).2 ≤ 2000000000 := by
  have hg := ok.g
  have := hg.s1; have := hg.s2; have := hg.s3; have := hg.o1; have := hg.o2; have := hg.l1; have := hg.l2; have := hg.l3
  unfold allR
  cases hj : ps[j]? with
  | none => simp
  | some t =>
    obtain ⟨t1, t2⟩ := ok.turn hj
    simp only [if_true, spR]
    split
    · simp
    · have a1 : 0 ≤ (s.lo + t - 1) / t := Int.ediv_nonneg (by omega) (by omega)
      have a2 : (s.lo + t - 1) / t ≤ 1000010000 := Int.le_trans (Int.ediv_le_self _ (by omega)) (by omega)
      have b1 : 0 ≤ s.hi / t := Int.ediv_nonneg (by omega) (by omega)
      have b2 : s.hi / t ≤ 1000000000 := Int.le_trans (Int.ediv_le_self _ (by omega)) (by omega)
      simp only [betR]
      omega
theorem ends_zero_iff (A : Rgs) : endsL A = List.replicate 24 0 ↔ ∀ j, j < 12 → A j = (0, 0) := by
  constructor
  · intro h j hj
    have e : endsL A = [(A 0).1, (A 0).2, (A 1).1, (A 1).2, (A 2).1, (A 2).2, (A 3).1, (A 3).2, (A 4).1, (A 4).2, (A 5).1, (A 5).2, (A 6).1, (A 6).2, (A 7).1, (A 7).2, (A 8).1, (A 8).2, (A 9).1, (A 9).2, (A 10).1, (A 10).2, (A 11).1, (A 11).2] := rfl
    rw [e] at h
    simp only [List.replicate, List.cons.injEq, and_true] at h
    have : j = 0 ∨ j = 1 ∨ j = 2 ∨ j = 3 ∨ j = 4 ∨ j = 5 ∨ j = 6 ∨ j = 7 ∨ j = 8 ∨ j = 9 ∨ j = 10 ∨ j = 11 := by omega
    rcases this with rfl | rfl | rfl | rfl | rfl | rfl | rfl | rfl | rfl | rfl | rfl | rfl <;> exact Prod.ext (by simp [h]) (by simp [h])
  · intro h
    have e : endsL A = [(A 0).1, (A 0).2, (A 1).1, (A 1).2, (A 2).1, (A 2).2, (A 3).1, (A 3).2, (A 4).1, (A 4).2, (A 5).1, (A 5).2, (A 6).1, (A 6).2, (A 7).1, (A 7).2, (A 8).1, (A 8).2, (A 9).1, (A 9).2, (A 10).1, (A 10).2, (A 11).1, (A 11).2] := rfl
    rw [e, h 0 (by decide), h 1 (by decide), h 2 (by decide), h 3 (by decide), h 4 (by decide), h 5 (by decide), h 6 (by decide), h 7 (by decide), h 8 (by decide), h 9 (by decide), h 10 (by decide), h 11 (by decide)]
    rfl
theorem gap_12 {s : RS} {ps : List Int} (ok : StoOk s ps) : gapR (allR s ps fun _ => true) 12 s.long s.short = gapR (betA s ps) ps.length s.long s.short := by
  have hs := ok.g.s1
  have n2 := ok.n2
  rw [← (runs_bet ok (n := ps.length) (Int.le_refl s.short) s.long).2]
  have hno : ∀ j x, ps.length ≤ j → s.short ≤ x → bearB (allR s ps fun _ => true) j x = false := fun j x hj hx => by
    rw [bearB, allR, List.getElem?_eq_none hj]
    exact decide_eq_false (by simp only; omega)
  cases hg : gapR (allR s ps fun _ => true) ps.length s.long s.short with
  | none =>
    refine gap_all fun z h1 h2 => ?_
    obtain ⟨j, hj, hb⟩ := gap_none hg z h1 h2
    exact ⟨j, by omega, hb⟩
  | some y =>
    have g := gap_some hg
    refine gap_eq ⟨g.le, g.ge, fun j hj => ?_, fun z h1 h2 => ?_⟩
    · by_cases hl : j < ps.length
      · exact g.no j hl
      · exact hno j y (by omega) g.ge
    · obtain ⟨j, hj, hb⟩ := g.all z h1 h2
      exact ⟨j, by omega, hb⟩
def gapV2 (s : RS) (ps : List Int) : SV := match gapR (betA s ps) ps.length s.long s.short with
  | some y => .tup [.d (iD y), .d (bD true)]
  | none => .tup [.d (iD 0), .d (bD false)]
theorem WhAt.set {s : RS} {ps : List Int} {A : Rgs} {w j : Nat} {m : Mem} {b : Option Blk} (h : WhAt s ps A w m) (hj : w ≠ j) : WhAt s ps A w (setMem m j b) := (if_neg hj).trans h
theorem allR_ge {s : RS} {ps : List Int} (ok : StoOk s ps) {j : Nat} {x : Int} (hx : s.short ≤ x) (hb : bearB (allR s ps fun _ => true) j x = true) : s.short ≤ (allR s ps (fun _ => true) j).1 := by
  have h1 := bear_val ok hx hb
  rw [bear_bet ok hx] at hb
  rw [h1]
  exact (bet_ge hb).1
theorem big_eq {s : RS} {ps : List Int} (ok : StoOk s ps) : bigEq QT .eql 81 (.agg (spS (allR s ps fun _ => true))) (.agg (List.replicate 24 (.d (iD 0)))) = some (.d (bD (decide (endsL (allR s ps fun _ => true) = List.replicate 24 0)))) := by
  have e1 : (List.replicate 24 (SV.d (iD 0))) = (List.replicate 24 (0 : Int)).map (SV.d ∘ iD) := rfl
  have hc := cmpL_ints (per := [.int .i64, .int .i64]) (fun i => by
      have : i % 2 = 0 ∨ i % 2 = 1 := by omega
      rcases this with h | h <;> simp [h]) (endsL (allR s ps fun _ => true)) (List.replicate 24 0) 0 rfl (fun x hx => by
      rw [endsL, List.mem_flatMap] at hx
      obtain ⟨j, -, hj⟩ := hx
      have := allR_in ok j
      simp at hj
      rcases hj with rfl | rfl
      · exact wf64 (by omega) (by omega)
      · exact wf64 (by omega) (by omega)) fun x hx => by
      have := (List.mem_replicate.1 hx).2
      subst this
      rfl
  rw [← e1, ← spS_map] at hc
  unfold bigEq QT
  simp [SV.one, SV.fit, SV.cells, hc, -List.reduceReplicate]
theorem gap_w {s : RS} {ps : List Int} (ok : StoOk s ps) {w : Nat} {m : Mem} (hm : WhAt s ps (allR s ps fun _ => true) w m) (n : Nat) (hw : w < n) :
    CWp Try.prog 52 [.ptr w 0 0] n m fun y n' m' => n ≤ n' ∧ y = gapV2 s ps ∧ ∀ j, j < n → m' j = m j := by
  have hg := ok.g
  have g1 := hg.s1; have g2 := hg.s2; have g3 := hg.s3
  have hl := whS_len s ps
  have hG := gap_12 ok
  have hsame : ∀ r, gapR (betA s ps) ps.length s.long s.short = r → gapV2 s ps = (match r with | some y => .tup [.d (iD y), .d (bD true)] | none => .tup [.d (iD 0), .d (bD false)]) := fun r h => by rw [gapV2, h]
  have hbig := big_eq ok
  by_cases hz : endsL (allR s ps fun _ => true) = List.replicate 24 0
  · have hno := (ends_zero_iff _).1 hz
    have hgap : gapR (betA s ps) ps.length s.long s.short = some s.long := by
      rw [← hG]
      exact gap_eq ⟨Int.le_refl _, g2, fun j hj => by rw [bearB, hno j hj]; exact decide_eq_false (by simp only; omega), fun z h1 h2 => by omega⟩
    rw [decide_eq_true hz] at hbig
    refine cwpK tabOk Try.func52 rfl rfl (show 1 ≤ _ by decide) rfl fun _ => ?_; simp only [Try.ntmps52]
    repeat (first | (with_reducible first | refine AWi.seqK fun _ => ?_ | refine AWi.blockK fun _ => ?_ | refine KI.go ?_) | (refine AWi.condK fun _ _ => ?_; simp [-getElem?_pos, z0, z1, z2, z0]) | ((first | refine AWi.ret ?_ | refine AWi.skip ?_ | refine AWi.exit ?_); try simp only [thenP]) | (with_reducible refine BB.go ?_; simp only [blockP, thenP, reduceIte]))
    refine AWi.region tabOk ?_
    simp [-getElem?_pos, z0, z1, z2]
    with_reducible refine KI.go ?_
    refine AWi.scope0 ?_
    repeat (first | (with_reducible first | refine AWi.seqK fun _ => ?_ | refine AWi.blockK fun _ => ?_ | refine KI.go ?_) | (refine AWi.condK fun _ _ => ?_; simp [-getElem?_pos, z0, z1, z2, z0]) | ((first | refine AWi.ret ?_ | refine AWi.skip ?_ | refine AWi.exit ?_); try simp only [thenP]) | (with_reducible refine BB.go ?_; simp only [blockP, thenP, reduceIte]))
    refine AWi.regionS ?_
    refine ExecS.plain tabOk (out := { res := .ptr w 0 0 }) rfl rfl (by simp [-getElem?_pos, z0, z1, z2]) ?_
    refine ExecS.plain tabOk (out := { res := .ptr w 0 0 }) rfl rfl (by simp [-getElem?_pos, z0, z1, z2, hm]) ?_
    refine ExecS.plain tabOk (out := { res := .ptr w 0 6 }) rfl rfl (by simp [-getElem?_pos, z0, z1, z2, hm]) ?_
    refine ExecS.plain tabOk (out := { res := .agg (spS (allR s ps fun _ => true)) }) rfl rfl (by simp [-getElem?_pos, z0, z1, z2, hm]) ?_
    refine ExecS.plain tabOk (out := { res := .agg (List.replicate 24 (.d (iD 0))) }) rfl rfl (by simp [-getElem?_pos, z0, z1, z2]) ?_
    refine ExecS.bigeq (T0 := QT) qtOk (X := .agg (spS (allR s ps fun _ => true))) (Y := .agg (List.replicate 24 (.d (iD 0)))) rfl rfl (by simp [-getElem?_pos, z0, z1, z2]) (by simp [-getElem?_pos, z0, z1, z2]) hbig ?_
    simp [putS, ExecS]
    with_reducible refine KI.go ?_
    repeat (first | (with_reducible first | refine AWi.seqK fun _ => ?_ | refine AWi.blockK fun _ => ?_ | refine KI.go ?_) | ((first | refine AWi.region tabOk ?_ | refine AWi.condK fun _ _ => ?_); simp [-getElem?_pos, z0, z1, z2, hm]) | ((first | refine AWi.ret ?_ | refine AWi.skip ?_ | refine AWi.exit ?_); try simp only [thenP]) | (with_reducible refine BB.go ?_; simp only [blockP, thenP, reduceIte]))
    exact ⟨by simp, RI.ret rfl ⟨by omega, by rw [hsame _ hgap]; rfl, fun j hj => rfl⟩⟩
  rw [decide_eq_false hz] at hbig
  clear hz
  refine cwpK tabOk Try.func52 rfl rfl (show 1 ≤ _ by decide) rfl fun _ => ?_; simp only [Try.ntmps52]
  repeat (first | (with_reducible first | refine AWi.seqK fun _ => ?_ | refine AWi.blockK fun _ => ?_ | refine KI.go ?_) | (refine AWi.condK fun _ _ => ?_; simp [-getElem?_pos, z0, z1, z2, z0]) | ((first | refine AWi.ret ?_ | refine AWi.skip ?_ | refine AWi.exit ?_); try simp only [thenP]) | (with_reducible refine BB.go ?_; simp only [blockP, thenP, reduceIte]))
  refine AWi.region tabOk ?_
  simp [-getElem?_pos, z0, z1, z2]
  with_reducible refine KI.go ?_
  refine AWi.scope0 ?_
  repeat (first | (with_reducible first | refine AWi.seqK fun _ => ?_ | refine AWi.blockK fun _ => ?_ | refine KI.go ?_) | (refine AWi.condK fun _ _ => ?_; simp [-getElem?_pos, z0, z1, z2, z0]) | ((first | refine AWi.ret ?_ | refine AWi.skip ?_ | refine AWi.exit ?_); try simp only [thenP]) | (with_reducible refine BB.go ?_; simp only [blockP, thenP, reduceIte]))
  refine AWi.regionS ?_
  refine ExecS.plain tabOk (out := { res := .ptr w 0 0 }) rfl rfl (by simp [-getElem?_pos, z0, z1, z2]) ?_
  refine ExecS.plain tabOk (out := { res := .ptr w 0 0 }) rfl rfl (by simp [-getElem?_pos, z0, z1, z2, hm]) ?_
  refine ExecS.plain tabOk (out := { res := .ptr w 0 6 }) rfl rfl (by simp [-getElem?_pos, z0, z1, z2, hm]) ?_
  refine ExecS.plain tabOk (out := { res := .agg (spS (allR s ps fun _ => true)) }) rfl rfl (by simp [-getElem?_pos, z0, z1, z2, hm]) ?_
  refine ExecS.plain tabOk (out := { res := .agg (List.replicate 24 (.d (iD 0))) }) rfl rfl (by simp [-getElem?_pos, z0, z1, z2]) ?_
  refine ExecS.bigeq (T0 := QT) qtOk (X := .agg (spS (allR s ps fun _ => true))) (Y := .agg (List.replicate 24 (.d (iD 0)))) rfl rfl (by simp [-getElem?_pos, z0, z1, z2]) (by simp [-getElem?_pos, z0, z1, z2]) hbig ?_
  simp [putS, ExecS]
  with_reducible refine KI.go ?_
  repeat (first | (with_reducible first | refine AWi.seqK fun _ => ?_ | refine AWi.blockK fun _ => ?_ | refine KI.go ?_) | ((first | refine AWi.region tabOk ?_ | refine AWi.condK fun _ _ => ?_); simp [-getElem?_pos, z0, z1, z2, hm]) | ((first | refine AWi.ret ?_ | refine AWi.skip ?_ | refine AWi.exit ?_); try simp only [thenP]) | (with_reducible refine BB.go ?_; simp only [blockP, thenP, reduceIte]))
  refine AWi.label ?_
  simp only [thenP]
  repeat (first | (with_reducible first | refine AWi.seqK fun _ => ?_ | refine AWi.blockK fun _ => ?_ | refine KI.go ?_) | ((first | refine AWi.region tabOk ?_ | refine AWi.condK fun _ _ => ?_); simp [-getElem?_pos, z0, z1, z2, hm]) | ((first | refine AWi.ret ?_ | refine AWi.skip ?_ | refine AWi.exit ?_); try simp only [thenP]) | (with_reducible refine BB.go ?_; simp only [blockP, thenP, reduceIte]))
  obtain ⟨A, hA⟩ : ∃ A, A = allR s ps fun _ => true := ⟨_, rfl⟩
  have hbd := allR_in ok
  rw [← hA] at hm hG hbd
  refine AWi.loopK (ι := { x : Int // s.short - 1 ≤ x ∧ x ≤ s.long ∧ ∀ z, x < z → z ≤ s.long → ∃ j, j < 12 ∧ bearB A j z = true }) (fun x n1 t => n ≤ n1 ∧ t.slots 0 = .ptr w 0 0 ∧ t.slots 4 = .d (iD x.1) ∧ ∀ j, j < n → t.mem j = m j) (fun x => (x.1 + 1 - s.short).toNat) ⟨s.long, by omega, Int.le_refl _, fun z h1 h2 => by omega⟩ ?_ ?_
  · exact ⟨by omega, by simp, by simp, fun j hj => rfl⟩
  rintro ⟨x, hx1, hx2, hx3⟩ n1 t ⟨r0, t0, t4, tl⟩ kk
  simp only at t4
  have hm1 : WhAt s ps A w t.mem := (tl w hw).trans hm
  by_cases hlt : s.short ≤ x
  · repeat (first | (with_reducible first | refine AWi.seqK fun _ => ?_ | refine AWi.blockK fun _ => ?_ | refine KI.go ?_) | ((first | refine AWi.region tabOk ?_ | refine AWi.condK fun _ _ => ?_); simp [-getElem?_pos, z0, z1, z2, t0, t4, hm1, hlt]) | ((first | refine AWi.ret ?_ | refine AWi.skip ?_ | refine AWi.exit ?_); try simp only [thenP]) | (with_reducible refine BB.go ?_; simp only [blockP, thenP, reduceIte]))
    refine AWi.loopK (ι := { k : Nat // k ≤ 12 ∧ ∀ j, j < k → bearB A j x = false }) (fun k n2 u => n ≤ n2 ∧ u.slots 0 = .ptr w 0 0 ∧ u.slots 4 = .d (iD x) ∧ u.slots 33 = .agg (spS A) ∧ u.slots 34 = .d (iD k.1) ∧ ∀ j, j < n → u.mem j = m j) (fun k => 12 - k.1) ⟨0, by omega, fun j hj => by omega⟩ ?_ ?_
    · exact ⟨by omega, by simp [t0], by simp [t4], by simp, by simp, tl⟩
    rintro ⟨k, hk, hno⟩ n2 u ⟨q0, u0, u4, u33, u34, ul⟩ kd
    simp only at u34
    have hm2 : WhAt s ps A w u.mem := (ul w hw).trans hm
    have w1 : IntKind.i64.wrap ((k : Int) + 1) = (k : Int) + 1 := wrap64_in (by omega)
    by_cases hk12 : k < 12
    · have hki : (k : Int) < 12 := by omega
      have hat := sp_at A hk12
      have hsl := spS_len A
      have hle : k * 2 + 2 ≤ 24 := by omega
      repeat (first | (with_reducible first | refine AWi.seqK fun _ => ?_ | refine AWi.blockK fun _ => ?_ | refine KI.go ?_) | ((first | refine AWi.region tabOk ?_ | refine AWi.condK fun _ _ => ?_); simp [-getElem?_pos, z0, z1, z2, u0, u4, u33, u34, hki, hat, hsl, hle]) | ((first | refine AWi.ret ?_ | refine AWi.skip ?_ | refine AWi.exit ?_); try simp only [thenP]) | (with_reducible refine BB.go ?_; simp only [blockP, thenP, reduceIte]))
      refine ExecI.callC (bears_w ((hm2.set (by omega)).set (by omega)) hk12 x _ (by omega)) rfl (by simp [calleeS, evList]) ?_
      rintro y n3 m3 ⟨q1, q2, rfl, q3⟩
      have m3r : m3 (n2 + 1 + 1 + 1) = some (.box 23 [.d (iD (A k).1), .d (iD (A k).2)] false) := (q3 _ (by omega)).trans (if_pos rfl)
      have ml3 : ∀ j, j < n → m3 j = m j := fun j hj => (q3 j (by omega)).trans (Eq.trans (by (try dsimp only); repeat (first | rw [setMem_lt (by omega)] | rw [putN_lt (by omega)])) (ul j hj))
      cases hb : bearB A k x with
      | false =>
        simp [-getElem?_pos, z0, z1, z2]
        repeat (first | (with_reducible first | refine AWi.seqK fun _ => ?_ | refine AWi.blockK fun _ => ?_ | refine KI.go ?_) | ((first | refine AWi.region tabOk ?_ | refine AWi.condK fun _ _ => ?_); simp [-getElem?_pos, z0, z1, z2, u34, w1]) | ((first | refine AWi.ret ?_ | refine AWi.skip ?_ | refine AWi.exit ?_); try simp only [thenP]) | (with_reducible refine BB.go ?_; simp only [blockP, thenP, reduceIte]))
        refine LI.go ⟨k + 1, hk12, fun j hj => ?_⟩ ⟨by omega, by simp [u0], by simp [u4], by simp [u33], by simp [iD], ml3⟩ (by simp; omega)
        by_cases e : j = k
        · subst e; exact hb
        · exact hno j (by omega)
      | true =>
        have hb' := bearB_iff.1 hb
        have := hbd k
        have w2 : IntKind.i64.wrap ((A k).1 - 1) = (A k).1 - 1 := wrap64_in (by omega)
        simp [-getElem?_pos, z0, z1, z2]
        repeat (first | (with_reducible first | refine AWi.seqK fun _ => ?_ | refine AWi.blockK fun _ => ?_ | refine KI.go ?_) | ((first | refine AWi.region tabOk ?_ | refine AWi.condK fun _ _ => ?_); simp [-getElem?_pos, z0, z1, z2, m3r, w2]) | ((first | refine AWi.ret ?_ | refine AWi.skip ?_ | refine AWi.exit ?_); try simp only [thenP]) | (with_reducible refine BB.go ?_; simp only [blockP, thenP, reduceIte]))
        rw [if_neg (by decide)]
        repeat (first | (with_reducible first | refine AWi.seqK fun _ => ?_ | refine AWi.blockK fun _ => ?_ | refine KI.go ?_) | ((first | refine AWi.region tabOk ?_ | refine AWi.condK fun _ _ => ?_); simp [-getElem?_pos, z0, z1, z2, z0]) | ((first | refine AWi.ret ?_ | refine AWi.skip ?_ | refine AWi.exit ?_); try simp only [thenP]) | (with_reducible refine BB.go ?_; simp only [blockP, thenP, reduceIte]))
        rw [if_neg (by decide)]
        repeat (first | (with_reducible first | refine AWi.seqK fun _ => ?_ | refine AWi.blockK fun _ => ?_ | refine KI.go ?_) | ((first | refine AWi.region tabOk ?_ | refine AWi.condK fun _ _ => ?_); simp [-getElem?_pos, z0, z1, z2, z0]) | ((first | refine AWi.ret ?_ | refine AWi.skip ?_ | refine AWi.exit ?_); try simp only [thenP]) | (with_reducible refine BB.go ?_; simp only [blockP, thenP, reduceIte]))
        have hge := allR_ge ok hlt (j := k) (by rw [← hA]; exact hb)
        rw [← hA] at hge
        refine LI.go ⟨(A k).1 - 1, by omega, by omega, fun z h1 h2 => ?_⟩ ⟨by omega, by simp [u0], by simp, ml3⟩ (by simp; omega)
        by_cases hzx : z ≤ x
        · exact ⟨k, hk12, bearB_iff.2 ⟨by omega, by omega⟩⟩
        · exact hx3 z (by omega) h2
    · obtain rfl : k = 12 := by omega
      have hgap : gapR (betA s ps) ps.length s.long s.short = some x := by
        rw [← hG]
        exact gap_eq ⟨hx2, hlt, hno, hx3⟩
      repeat (first | (with_reducible first | refine AWi.seqK fun _ => ?_ | refine AWi.blockK fun _ => ?_ | refine KI.go ?_) | ((first | refine AWi.region tabOk ?_ | refine AWi.condK fun _ _ => ?_); simp [-getElem?_pos, z0, z1, z2, u0, u4, u33, u34]) | ((first | refine AWi.ret ?_ | refine AWi.skip ?_ | refine AWi.exit ?_); try simp only [thenP]) | (with_reducible refine BB.go ?_; simp only [blockP, thenP, reduceIte]))
      exact ⟨by simp, RI.ret rfl ⟨by omega, by rw [hsame _ hgap]; rfl, fun j hj => ul j hj⟩⟩
  · have hgap : gapR (betA s ps) ps.length s.long s.short = none := by
      rw [← hG]
      exact gap_all fun z h1 h2 => hx3 z (by omega) h2
    repeat (first | (with_reducible first | refine AWi.seqK fun _ => ?_ | refine AWi.blockK fun _ => ?_ | refine KI.go ?_) | ((first | refine AWi.region tabOk ?_ | refine AWi.condK fun _ _ => ?_); simp [-getElem?_pos, z0, z1, z2, t0, t4, hm1, hlt]) | ((first | refine AWi.ret ?_ | refine AWi.skip ?_ | refine AWi.exit ?_); try simp only [thenP]) | (with_reducible refine BB.go ?_; simp only [blockP, thenP, reduceIte]))
    exact ⟨by simp, RI.ret rfl ⟨by omega, by rw [hsame _ hgap]; rfl, fun j hj => tl j hj⟩⟩
theorem gap_x (s : RS) (ps : List Int) (hl : ps.length ≤ 1000000) (n : Nat) (m : Mem) :
    CWp Try.prog 20 [.d (stoD s), .d (intL ps)] n m fun y n' m' => toD4 y = some (.tup [iD (gapV s ps), iD (gapE s ps)]) ∧ ∀ j, j < n → m' j = m j := by
  by_cases h0 : stoE s ps = 0
  · have ok := stoE_ok.1 h0
    have hE : gapE s ps = if gapI s ps < 0 then 5 else 0 := by rw [gapE, if_pos h0]
    have hV : gapV s ps = if gapI s ps < 0 then 0 else gapI s ps := by
      rw [gapV, hE]
      split <;> simp
    refine cwpK tabOk Try.func20 rfl rfl (show 2 ≤ _ by decide) rfl fun _ => ?_; simp only [Try.ntmps20]
    repeat (first | (with_reducible first | refine AWi.seqK fun _ => ?_ | refine AWi.blockK fun _ => ?_ | refine KI.go ?_) | ((first | refine AWi.region tabOk ?_ | refine AWi.condK fun _ _ => ?_); simp [-getElem?_pos, z0, z1, z2, z0]) | ((first | refine AWi.ret ?_ | refine AWi.skip ?_ | refine AWi.exit ?_); try simp only [thenP]) | (with_reducible refine BB.go ?_; simp only [blockP, thenP, reduceIte]))
    refine ExecI.callC (check_w s ps hl _ _) rfl (by simp [calleeS, evList]) ?_
    rintro y n1 m1 ⟨q1, q2, q3⟩
    rw [whP, if_pos h0] at q2
    obtain ⟨w, q4, q5, rfl, hw⟩ := q2
    simp
    repeat (first | (with_reducible first | refine AWi.seqK fun _ => ?_ | refine AWi.blockK fun _ => ?_ | refine KI.go ?_) | ((first | refine AWi.region tabOk ?_ | refine AWi.condK fun _ _ => ?_); simp [-getElem?_pos, z0, z1, z2, z0]) | ((first | refine AWi.ret ?_ | refine AWi.skip ?_ | refine AWi.exit ?_); try simp only [thenP]) | (with_reducible refine BB.go ?_; simp only [blockP, thenP, reduceIte]))
    refine ExecI.callC (gap_w ok hw _ (by omega)) rfl (by simp [calleeS, evList]) ?_
    rintro y n2 m2 ⟨q6, rfl, q7⟩
    have hlow : ∀ j, j < n → m2 j = m j := fun j hj => (q7 j (by omega)).trans ((q3 j (by omega)).trans (by (try dsimp only); repeat (first | rw [setMem_lt (by omega)] | rw [putN_lt (by omega)])))
    cases hg : gapR (betA s ps) ps.length s.long s.short with
    | none =>
      have hi : gapI s ps = -1 := by rw [gapI, hg]
      rw [hi, if_pos (by decide)] at hE hV
      simp [gapV2, hg]
      repeat (first | (with_reducible first | refine AWi.seqK fun _ => ?_ | refine AWi.blockK fun _ => ?_ | refine KI.go ?_) | ((first | refine AWi.region tabOk ?_ | refine AWi.condK fun _ _ => ?_); simp [-getElem?_pos, z0, z1, z2, z0]) | ((first | refine AWi.ret ?_ | refine AWi.skip ?_ | refine AWi.exit ?_); try simp only [thenP]) | (with_reducible refine BB.go ?_; simp only [blockP, thenP, reduceIte]))
      exact RI.ret rfl ⟨by rw [hE, hV]; rfl, hlow⟩
    | some x =>
      have hi : gapI s ps = x := by rw [gapI, hg]
      have := (gap_some hg).ge
      have := ok.g.s1
      rw [hi, if_neg (by omega)] at hE hV
      simp [gapV2, hg]
      repeat (first | (with_reducible first | refine AWi.seqK fun _ => ?_ | refine AWi.blockK fun _ => ?_ | refine KI.go ?_) | ((first | refine AWi.region tabOk ?_ | refine AWi.condK fun _ _ => ?_); simp [-getElem?_pos, z0, z1, z2, z0]) | ((first | refine AWi.ret ?_ | refine AWi.skip ?_ | refine AWi.exit ?_); try simp only [thenP]) | (with_reducible refine BB.go ?_; simp only [blockP, thenP, reduceIte]))
      exact RI.ret rfl ⟨by rw [hE, hV]; rfl, hlow⟩
  · have hE : gapE s ps = stoE s ps := by rw [gapE, if_neg h0]
    have hV : gapV s ps = 0 := by rw [gapV, hE, if_neg h0]
    refine cwpK tabOk Try.func20 rfl rfl (show 2 ≤ _ by decide) rfl fun _ => ?_; simp only [Try.ntmps20]
    repeat (first | (with_reducible first | refine AWi.seqK fun _ => ?_ | refine AWi.blockK fun _ => ?_ | refine KI.go ?_) | ((first | refine AWi.region tabOk ?_ | refine AWi.condK fun _ _ => ?_); simp [-getElem?_pos, z0, z1, z2, z0]) | ((first | refine AWi.ret ?_ | refine AWi.skip ?_ | refine AWi.exit ?_); try simp only [thenP]) | (with_reducible refine BB.go ?_; simp only [blockP, thenP, reduceIte]))
    refine ExecI.callC (check_w s ps hl _ _) rfl (by simp [calleeS, evList]) ?_
    rintro y n1 m1 ⟨q1, q2, q3⟩
    rw [whP, if_neg h0] at q2
    subst q2
    have hlow : ∀ j, j < n → m1 j = m j := fun j hj => (q3 j (by omega)).trans (by (try dsimp only); repeat (first | rw [setMem_lt (by omega)] | rw [putN_lt (by omega)]))
    simp
    repeat (first | (with_reducible first | refine AWi.seqK fun _ => ?_ | refine AWi.blockK fun _ => ?_ | refine KI.go ?_) | ((first | refine AWi.region tabOk ?_ | refine AWi.condK fun _ _ => ?_); simp [-getElem?_pos, z0, z1, z2, h0]) | ((first | refine AWi.ret ?_ | refine AWi.skip ?_ | refine AWi.exit ?_); try simp only [thenP]) | (with_reducible refine BB.go ?_; simp only [blockP, thenP, reduceIte]))
    exact RI.ret rfl ⟨by rw [hE, hV]; rfl, hlow⟩
theorem gap_c (s : RS) (ps : List Int) (hl : ps.length ≤ 1000000) : ACall Try.prog 20 [stoD s, intL ps] (.tup [iD (gapV s ps), iD (gapE s ps)]) :=
  ACall.ofR (RCall.of4 (n0 := 0) fun n _ => (gap_x s ps hl n _).mono fun _ _ _ h => h)
end Go.Proofs.Ytdkneonokbakjaa.Eng

noncomputable section
namespace Go.Proofs.Ytdkneonokbakjaa.Eng
open Go.RowKit
variable {P : Program} {T : Tab} {Z : ZTab} {Q : QTab} {M : MTab} {K : Known}
def chkV (P : Program) (T : Tab) (Z : ZTab) (Q : QTab) (M : MTab) (K : Known) (fuel : Nat) (f : FuncId) (v : Value) : Bool := match callFn P T (runR P T Z Q M K fuel) f [] 0 .lf with
  | some q => same1 q.y (.d (.val v))
  | none => false
theorem chkV_ok {fuel : Nat} {f : FuncId} {v : Value} (h : chkV P T Z Q M K fuel f v = true) : (callFn P T (runR P T Z Q M K fuel) f [] 0 .lf).map (·.y) = some (.d (.val v)) := by
  unfold chkV at h
  split at h
  · rename_i q hq
    rw [hq, Option.map_some, same1_eq h]
  · cases h
end Go.Proofs.Ytdkneonokbakjaa.Eng

noncomputable section
namespace Go.Proofs.Ytdkneonokbakjaa.Eng
open Go.RowKit
set_option maxRecDepth 100000
def goodE (cells : List SV) (q : List Int × SV × Nat) : Bool := match q.1 with
  | [.ofNat k] => Nat.ble (k + 1) 12 && (match cells[6 + k * 2]? with
    | some (.d (.val (.int .i64 _))) => true
    | _ => false)
  | _ => false
def okEs2 (cells : List SV) (es : List (List Int × SV × Nat)) (clock : Nat) : Bool := es.all (fun q => goodE cells q && Nat.ble (q.2.2 + 1) clock) && decide (es.map (·.1)).Nodup && decide (es.map (·.2.2)).Nodup
def passSum (args : List SV) (n : Nat) (m : Tr CB) : Option Rs := match args with
  | [.ptr wid 0 0, .mp id, .d (.val (.int .i64 len))] => match m.get wid, m.get id with
    | some (.bx none ty N d t f), some (.mp false [.i64] es clock) => match Nat.beq ty 83 && Nat.ble id 10000000 && okEs2 (cellsOf N d t 0) es clock with
      | true => some ⟨.tup [], n + 20 + 60 * es.length, putM m id (some (.mp false [.i64] (passL (cellsOf N d t 0) len es) clock))⟩
      | false => none
    | _, _ => none
  | _ => none
theorem goodE_spec {cells : List SV} {q : List Int × SV × Nat} (h : goodE cells q = true) : ∃ (p : Nat) (lo : Int), p < 12 ∧ q.1 = [(p : Int)] ∧ cells[6 + p * 2]? = some (.d (iD lo)) := by
  unfold goodE at h
  split at h
  · rename_i k hq
    rw [Bool.and_eq_true] at h
    obtain ⟨h1, h2⟩ := h
    split at h2
    · rename_i lo hc
      exact ⟨k, lo, by have := Nat.le_of_ble_eq_true h1; omega, hq, hc⟩
    · cases h2
  · cases h
theorem pass_callable : Callable Try.prog 79 :=
  (pass_w (m := fun j => if j = 0 then some (.box 83 [] false) else if j = 1 then some (mapB mi [] 0) else none) (wid := 0) (id := 1) (clock := 0) (cells := []) (f := false) (es := []) (by simp) (by simp) (by decide) (n := 2) (by decide) (by decide) (by simp) (by simp) (by simp) (by simp) 0).callable
theorem passSum_ok {args : List SV} {n : Nat} {m : Tr CB} {q : Rs} (h : passSum args n m = some q) : Calls2 Try.prog 79 args n m q := by
  unfold passSum at h
  split at h
  · rename_i wid id len
    split at h
    · rename_i ty N d t f es clock h1 h2
      split at h
      · rename_i hc
        cases h
        simp only [Bool.and_eq_true, Nat.beq_eq, okEs2, List.all_eq_true, decide_eq_true_eq] at hc
        obtain ⟨⟨rfl, hid⟩, ⟨hall, hn1⟩, hn2⟩ := hc
        have hm1 : mOf m wid = some (.box 83 (cellsOf N d t 0) f) := mOf_get h1
        have hm2 : mOf m id = some (mapB mi es clock) := mOf_get h2
        have hne : wid ≠ id := fun e => by rw [e, h2] at h1; cases h1
        refine ⟨⟨pass_callable, fun W0 R0 E w vs M hs hr => ?_⟩, by show n ≤ n + 20 + 60 * es.length; omega, Recs.put (lt_deep hid) fun st pe k sl ps x y e => by rw [h2] at e; cases e⟩
        have hlt : ∀ i b, mOf m i = some b → i < n := fun i b hi => M.dom i (M.live i b hi)
        have H := pass_w hm1 hm2 hne (hlt _ _ hm1) (hlt _ _ hm2) (fun q hq => goodE_spec (hall q hq).1) hn1 hn2 (fun q hq => by have := Nat.le_of_ble_eq_true (hall q hq).2; omega) len
        refine (H.calls W0 R0 E w vs M hs hr).mono ?_
        rintro e w' ⟨v, E', n', m', y, rfl, M2, hE, hk, hv, k1, k2, rfl, k4⟩
        have hm : ∀ i b, mOf (putM m id (some (.mp false [.i64] (passL (cellsOf N d t 0) len es) clock))) i = some b → m' i = some b := fun i b hb => by
          rw [mOf_put (lt_deep hid)] at hb
          unfold setMem at hb
          split at hb
          · rename_i e
            subst e
            rw [k4 i (hlt _ _ hm2), if_pos rfl]
            exact hb
          · rename_i e
            rw [k4 i (hlt _ _ hb), if_neg e]
            exact hb
        exact ⟨v, E', _, _, _, rfl, ⟨M2.below, M2.ro0, M2.ro1, M2.rlt, fun i hi => Nat.lt_of_lt_of_le (M2.dom i hi) k2, fun i b hi => M2.live i b (hm i b hi), fun i b hi => M2.mem i b (hm i b hi), fun i b hi => M2.base i b (hm i b hi), fun i b hi => M2.frz i b (hm i b hi), fun i j b c hi hj hne => M2.inj i j b c (hm i b hi) (hm j c hj) hne⟩, hE, hk, hv, rfl, rfl, rfl⟩
      · cases h
    · cases h
  · cases h
def SMS : Sums := fun f => match Nat.beq f 79 with
  | true => some passSum
  | false => none
theorem smsOk : SumsOk Try.prog SMS := fun f g h args n m q hq => by
  unfold SMS at h
  split at h
  · rename_i e
    cases h
    rw [Nat.beq_eq] at e
    subst e
    exact passSum_ok hq
  · cases h
end Go.Proofs.Ytdkneonokbakjaa.Eng

namespace Go.Proofs.Ytdkneonokbakjaa.Eng
open Go.RowKit
set_option maxRecDepth 100000
def ra1 : Ent := ⟨18, [(.agg [(.d (.val (.int .i64 3000))), (.d (.val (.int .i64 1500))), (.d (.val (.int .i64 10))), (.d (.val (.int .i64 540000))), (.d (.val (.int .i64 720000)))]), (.sl 4 0 5 (some 5)), (.d (.val (.int .i64 1)))], 7, (.nd none .lf (.nd none (.nd (some (.bx none 2 5 [(.d (.val (.int .i64 200))), (.d (.val (.int .i64 250))), (.d (.val (.int .i64 260))), (.d (.val (.int .i64 300))), (.d (.val (.int .i64 390)))] .lf false)) .lf .lf) .lf)), ⟨(.tup [(.agg [(.d (.val (.int .i64 2170))), (.d (.val (.int .i64 2870)))]), (.d (.val (.int .i64 0)))]), 46, (.nd none .lf (.nd none (.nd (some (.bx none 2 5 [(.d (.val (.int .i64 200))), (.d (.val (.int .i64 250))), (.d (.val (.int .i64 260))), (.d (.val (.int .i64 300))), (.d (.val (.int .i64 390)))] .lf false)) .lf .lf) .lf))⟩⟩
theorem ra1_ok : Calls2 Try.prog ra1.f ra1.args ra1.n ra1.m ra1.q := chk_ok (fuel := 600) tabOk ztOk qtOk mtOk (known_sums smsOk) noGor mixed (by decide +kernel)
end Go.Proofs.Ytdkneonokbakjaa.Eng

namespace Go.Proofs.Ytdkneonokbakjaa.Eng
open Go.RowKit
set_option maxRecDepth 100000
def ra2 : Ent := ⟨20, [(.agg [(.d (.val (.int .i64 3000))), (.d (.val (.int .i64 1500))), (.d (.val (.int .i64 10))), (.d (.val (.int .i64 540000))), (.d (.val (.int .i64 720000)))]), (.sl 4 0 5 (some 5))], 48, (.nd none .lf (.nd none (.nd (some (.bx none 2 5 [(.d (.val (.int .i64 200))), (.d (.val (.int .i64 250))), (.d (.val (.int .i64 260))), (.d (.val (.int .i64 300))), (.d (.val (.int .i64 390)))] .lf false)) .lf .lf) .lf)), ⟨(.tup [(.d (.val (.int .i64 0))), (.d (.val (.int .i64 5)))]), 143, (.nd none .lf (.nd none (.nd (some (.bx none 2 5 [(.d (.val (.int .i64 200))), (.d (.val (.int .i64 250))), (.d (.val (.int .i64 260))), (.d (.val (.int .i64 300))), (.d (.val (.int .i64 390)))] .lf false)) .lf .lf) .lf))⟩⟩
theorem ra2_ok : Calls2 Try.prog ra2.f ra2.args ra2.n ra2.m ra2.q := chk_ok (fuel := 600) tabOk ztOk qtOk mtOk (known_sums smsOk) noGor mixed (by decide +kernel)
end Go.Proofs.Ytdkneonokbakjaa.Eng

namespace Go.Proofs.Ytdkneonokbakjaa.Eng
open Go.RowKit
set_option maxRecDepth 100000
def ra3 : Ent := ⟨20, [(.agg [(.d (.val (.int .i64 3000))), (.d (.val (.int .i64 1500))), (.d (.val (.int .i64 10))), (.d (.val (.int .i64 540000))), (.d (.val (.int .i64 720000)))]), (.sl 143 0 5 (some 5))], 144, (.nd none (.nd none (.nd none (.nd none (.nd none .lf (.nd none (.nd none (.nd (some (.bx none 2 5 [(.d (.val (.int .i64 200))), (.d (.val (.int .i64 250))), (.d (.val (.int .i64 260))), (.d (.val (.int .i64 300))), (.d (.val (.int .i64 400)))] .lf false)) .lf .lf) .lf) .lf)) .lf) .lf) .lf) .lf), ⟨(.tup [(.d (.val (.int .i64 1809))), (.d (.val (.int .i64 0)))]), 267, (.nd none (.nd none (.nd none (.nd none (.nd none .lf (.nd none (.nd none (.nd (some (.bx none 2 5 [(.d (.val (.int .i64 200))), (.d (.val (.int .i64 250))), (.d (.val (.int .i64 260))), (.d (.val (.int .i64 300))), (.d (.val (.int .i64 400)))] .lf false)) .lf .lf) .lf) .lf)) .lf) .lf) .lf) .lf)⟩⟩
theorem ra3_ok : Calls2 Try.prog ra3.f ra3.args ra3.n ra3.m ra3.q := chk_ok (fuel := 600) tabOk ztOk qtOk mtOk (known_sums smsOk) noGor mixed (by decide +kernel)
end Go.Proofs.Ytdkneonokbakjaa.Eng

namespace Go.Proofs.Ytdkneonokbakjaa.Eng
open Go.RowKit
set_option maxRecDepth 100000
def ra4 : Ent := ⟨28, [(.agg [(.d (.val (.int .i64 3000))), (.d (.val (.int .i64 1500))), (.d (.val (.int .i64 10))), (.d (.val (.int .i64 540000))), (.d (.val (.int .i64 720000)))]), (.sl 4 0 5 (some 5))], 267, (.nd none .lf (.nd none (.nd (some (.bx none 2 5 [(.d (.val (.int .i64 200))), (.d (.val (.int .i64 250))), (.d (.val (.int .i64 260))), (.d (.val (.int .i64 300))), (.d (.val (.int .i64 390)))] .lf false)) .lf .lf) .lf)), ⟨(.tup [(.sl 1509 0 4 (some 4)), (.d (.val (.int .i64 0)))]), 1511, (.nd none (.nd none .lf (.nd none .lf (.nd none (.nd none (.nd none .lf (.nd none .lf (.nd none .lf (.nd none .lf (.nd none (.nd (some (.bx none 59 8 [(.d (.val (.int .i64 0))), (.d (.val (.int .i64 0)))] (.nd (some (.d (.val (.int .i64 3000)))) (.nd (some (.d (.val (.int .i64 0)))) (.nd (some (.d (.val (.int .i64 2)))) (.nd (some (.d (.val (.int .i64 4)))) .lf .lf) .lf) (.nd (some (.d (.val (.int .i64 3)))) .lf .lf)) (.nd (some (.d (.val (.int .i64 2709)))) (.nd (some (.d (.val (.int .i64 2086)))) .lf .lf) (.nd (some (.d (.val (.int .i64 1809)))) .lf .lf))) false)) .lf .lf) .lf))))) .lf) .lf))) (.nd none (.nd (some (.bx none 2 5 [(.d (.val (.int .i64 200))), (.d (.val (.int .i64 250))), (.d (.val (.int .i64 260))), (.d (.val (.int .i64 300))), (.d (.val (.int .i64 390)))] .lf false)) .lf .lf) .lf))⟩⟩
theorem ra4_ok : Calls2 Try.prog ra4.f ra4.args ra4.n ra4.m ra4.q := chk_ok (fuel := 600) tabOk ztOk qtOk mtOk (known_sums smsOk) noGor mixed (by decide +kernel)
end Go.Proofs.Ytdkneonokbakjaa.Eng

namespace Go.Proofs.Ytdkneonokbakjaa.Eng
open Go.RowKit
set_option maxRecDepth 100000
def ra5 : Ent := ⟨24, [(.agg [(.d (.val (.int .i64 3000))), (.d (.val (.int .i64 1500))), (.d (.val (.int .i64 10))), (.d (.val (.int .i64 540000))), (.d (.val (.int .i64 720000)))]), (.sl 4 0 5 (some 5)), (.sl 1509 0 4 (some 4))], 1511, (.nd none (.nd none .lf (.nd none .lf (.nd none (.nd none (.nd none .lf (.nd none .lf (.nd none .lf (.nd none .lf (.nd none (.nd (some (.bx none 59 8 [(.d (.val (.int .i64 0))), (.d (.val (.int .i64 0)))] (.nd (some (.d (.val (.int .i64 3000)))) (.nd (some (.d (.val (.int .i64 0)))) (.nd (some (.d (.val (.int .i64 2)))) (.nd (some (.d (.val (.int .i64 4)))) .lf .lf) .lf) (.nd (some (.d (.val (.int .i64 3)))) .lf .lf)) (.nd (some (.d (.val (.int .i64 2709)))) (.nd (some (.d (.val (.int .i64 2086)))) .lf .lf) (.nd (some (.d (.val (.int .i64 1809)))) .lf .lf))) false)) .lf .lf) .lf))))) .lf) .lf))) (.nd none (.nd (some (.bx none 2 5 [(.d (.val (.int .i64 200))), (.d (.val (.int .i64 250))), (.d (.val (.int .i64 260))), (.d (.val (.int .i64 300))), (.d (.val (.int .i64 390)))] .lf false)) .lf .lf) .lf)), ⟨(.tup [(.agg [(.d (.val (.int .i64 540000))), (.d (.val (.int .i64 709410)))]), (.d (.val (.int .i64 0)))]), 1647, (.nd none (.nd none .lf (.nd none .lf (.nd none (.nd none (.nd none .lf (.nd none .lf (.nd none .lf (.nd none .lf (.nd none (.nd (some (.bx none 59 8 [(.d (.val (.int .i64 0))), (.d (.val (.int .i64 0)))] (.nd (some (.d (.val (.int .i64 3000)))) (.nd (some (.d (.val (.int .i64 0)))) (.nd (some (.d (.val (.int .i64 2)))) (.nd (some (.d (.val (.int .i64 4)))) .lf .lf) .lf) (.nd (some (.d (.val (.int .i64 3)))) .lf .lf)) (.nd (some (.d (.val (.int .i64 2709)))) (.nd (some (.d (.val (.int .i64 2086)))) .lf .lf) (.nd (some (.d (.val (.int .i64 1809)))) .lf .lf))) false)) .lf .lf) .lf))))) .lf) .lf))) (.nd none (.nd (some (.bx none 2 5 [(.d (.val (.int .i64 200))), (.d (.val (.int .i64 250))), (.d (.val (.int .i64 260))), (.d (.val (.int .i64 300))), (.d (.val (.int .i64 390)))] .lf false)) .lf .lf) .lf))⟩⟩
theorem ra5_ok : Calls2 Try.prog ra5.f ra5.args ra5.n ra5.m ra5.q := chk_ok (fuel := 600) tabOk ztOk qtOk mtOk (known_sums smsOk) noGor mixed (by decide +kernel)
end Go.Proofs.Ytdkneonokbakjaa.Eng

namespace Go.Proofs.Ytdkneonokbakjaa.Eng
open Go.RowKit
set_option maxRecDepth 100000
def ra6 : Ent := ⟨26, [(.agg [(.d (.val (.int .i64 3000))), (.d (.val (.int .i64 1500))), (.d (.val (.int .i64 10))), (.d (.val (.int .i64 540000))), (.d (.val (.int .i64 720000)))]), (.sl 4 0 5 (some 5)), (.sl 1657 0 4 (some 4))], 1658, (.nd none (.nd none .lf (.nd none (.nd none .lf (.nd none .lf (.nd none .lf (.nd none .lf (.nd none (.nd none (.nd none .lf (.nd (some (.bx none 59 8 [(.d (.val (.int .i64 3000))), (.d (.val (.int .i64 0))), (.d (.val (.int .i64 2800))), (.d (.val (.int .i64 1))), (.d (.val (.int .i64 2100))), (.d (.val (.int .i64 3))), (.d (.val (.int .i64 1836))), (.d (.val (.int .i64 4)))] .lf false)) .lf .lf)) .lf) .lf))))) .lf)) (.nd none (.nd (some (.bx none 2 5 [(.d (.val (.int .i64 200))), (.d (.val (.int .i64 250))), (.d (.val (.int .i64 260))), (.d (.val (.int .i64 300))), (.d (.val (.int .i64 390)))] .lf false)) .lf .lf) .lf)), ⟨(.d (.val (.int .i64 19))), 1746, (.nd none (.nd none .lf (.nd none (.nd none .lf (.nd none .lf (.nd none .lf (.nd none .lf (.nd none (.nd none (.nd none .lf (.nd (some (.bx none 59 8 [(.d (.val (.int .i64 3000))), (.d (.val (.int .i64 0))), (.d (.val (.int .i64 2800))), (.d (.val (.int .i64 1))), (.d (.val (.int .i64 2100))), (.d (.val (.int .i64 3))), (.d (.val (.int .i64 1836))), (.d (.val (.int .i64 4)))] .lf false)) .lf .lf)) .lf) .lf))))) .lf)) (.nd none (.nd (some (.bx none 2 5 [(.d (.val (.int .i64 200))), (.d (.val (.int .i64 250))), (.d (.val (.int .i64 260))), (.d (.val (.int .i64 300))), (.d (.val (.int .i64 390)))] .lf false)) .lf .lf) .lf))⟩⟩
theorem ra6_ok : Calls2 Try.prog ra6.f ra6.args ra6.n ra6.m ra6.q := chk_ok (fuel := 600) tabOk ztOk qtOk mtOk (known_sums smsOk) noGor mixed (by decide +kernel)
end Go.Proofs.Ytdkneonokbakjaa.Eng

namespace Go.Proofs.Ytdkneonokbakjaa.Eng
open Go.RowKit
set_option maxRecDepth 100000
def ra7 : Ent := ⟨30, [(.agg [(.d (.val (.int .i64 3000))), (.d (.val (.int .i64 1500))), (.d (.val (.int .i64 10))), (.d (.val (.int .i64 540000))), (.d (.val (.int .i64 720000)))]), (.sl 4 0 5 (some 5))], 1746, (.nd none .lf (.nd none (.nd (some (.bx none 2 5 [(.d (.val (.int .i64 200))), (.d (.val (.int .i64 250))), (.d (.val (.int .i64 260))), (.d (.val (.int .i64 300))), (.d (.val (.int .i64 390)))] .lf false)) .lf .lf) .lf)), ⟨(.tup [(.sl 3007 0 4 (some 4)), (.d (.val (.int .i64 0)))]), 3009, (.nd none (.nd none (.nd none (.nd none (.nd none (.nd none (.nd none .lf (.nd none .lf (.nd none .lf (.nd none .lf (.nd none (.nd (some (.bx none 2 4 [(.d (.val (.int .i64 0)))] (.nd (some (.d (.val (.int .i64 3000)))) (.nd (some (.d (.val (.int .i64 2709)))) (.nd (some (.d (.val (.int .i64 1809)))) .lf .lf) .lf) (.nd (some (.d (.val (.int .i64 2086)))) .lf .lf)) false)) .lf .lf) .lf))))) .lf) .lf) .lf) .lf) .lf) (.nd none (.nd (some (.bx none 2 5 [(.d (.val (.int .i64 200))), (.d (.val (.int .i64 250))), (.d (.val (.int .i64 260))), (.d (.val (.int .i64 300))), (.d (.val (.int .i64 390)))] .lf false)) .lf .lf) .lf))⟩⟩
theorem ra7_ok : Calls2 Try.prog ra7.f ra7.args ra7.n ra7.m ra7.q := chk_ok (fuel := 600) tabOk ztOk qtOk mtOk (known_sums smsOk) noGor mixed (by decide +kernel)
end Go.Proofs.Ytdkneonokbakjaa.Eng

namespace Go.Proofs.Ytdkneonokbakjaa.Eng
open Go.RowKit
set_option maxRecDepth 100000
def ra8 : Ent := ⟨34, [(.agg [(.d (.val (.int .i64 3000))), (.d (.val (.int .i64 1500))), (.d (.val (.int .i64 10))), (.d (.val (.int .i64 540000))), (.d (.val (.int .i64 720000)))]), (.sl 4 0 5 (some 5)), (.sl 3009 0 3 (some 3))], 3010, (.nd none (.nd none .lf (.nd none (.nd none (.nd none (.nd none (.nd none .lf (.nd none .lf (.nd none .lf (.nd none .lf (.nd none (.nd (some (.bx none 2 3 [(.d (.val (.int .i64 3000))), (.d (.val (.int .i64 2800))), (.d (.val (.int .i64 2000)))] .lf false)) .lf .lf) .lf))))) .lf) .lf) .lf) .lf)) (.nd none (.nd (some (.bx none 2 5 [(.d (.val (.int .i64 200))), (.d (.val (.int .i64 250))), (.d (.val (.int .i64 260))), (.d (.val (.int .i64 300))), (.d (.val (.int .i64 390)))] .lf false)) .lf .lf) .lf)), ⟨(.d (.val (.int .i64 14))), 3061, (.nd none (.nd none .lf (.nd none (.nd none (.nd none (.nd none (.nd none .lf (.nd none .lf (.nd none .lf (.nd none .lf (.nd none (.nd (some (.bx none 2 3 [(.d (.val (.int .i64 3000))), (.d (.val (.int .i64 2800))), (.d (.val (.int .i64 2000)))] .lf false)) .lf .lf) .lf))))) .lf) .lf) .lf) .lf)) (.nd none (.nd (some (.bx none 2 5 [(.d (.val (.int .i64 200))), (.d (.val (.int .i64 250))), (.d (.val (.int .i64 260))), (.d (.val (.int .i64 300))), (.d (.val (.int .i64 390)))] .lf false)) .lf .lf) .lf))⟩⟩
theorem ra8_ok : Calls2 Try.prog ra8.f ra8.args ra8.n ra8.m ra8.q := chk_ok (fuel := 600) tabOk ztOk qtOk mtOk (known_sums smsOk) noGor mixed (by decide +kernel)
end Go.Proofs.Ytdkneonokbakjaa.Eng

namespace Go.Proofs.Ytdkneonokbakjaa.Eng
open Go.RowKit
set_option maxRecDepth 100000
def ra9 : Ent := ⟨36, [(.agg [(.d (.val (.int .i64 3000))), (.d (.val (.int .i64 1500))), (.d (.val (.int .i64 10))), (.d (.val (.int .i64 540000))), (.d (.val (.int .i64 720000)))]), (.sl 4 0 5 (some 5)), (.d (.val (.int .i64 2)))], 3061, (.nd none .lf (.nd none (.nd (some (.bx none 2 5 [(.d (.val (.int .i64 200))), (.d (.val (.int .i64 250))), (.d (.val (.int .i64 260))), (.d (.val (.int .i64 300))), (.d (.val (.int .i64 390)))] .lf false)) .lf .lf) .lf)), ⟨(.tup [(.d (.val (.int .i64 2087))), (.d (.val (.int .i64 0)))]), 4083, (.nd none .lf (.nd none (.nd (some (.bx none 2 5 [(.d (.val (.int .i64 200))), (.d (.val (.int .i64 250))), (.d (.val (.int .i64 260))), (.d (.val (.int .i64 300))), (.d (.val (.int .i64 390)))] .lf false)) .lf .lf) .lf))⟩⟩
theorem ra9_ok : Calls2 Try.prog ra9.f ra9.args ra9.n ra9.m ra9.q := chk_ok (fuel := 600) tabOk ztOk qtOk mtOk (known_sums smsOk) noGor mixed (by decide +kernel)
end Go.Proofs.Ytdkneonokbakjaa.Eng

namespace Go.Proofs.Ytdkneonokbakjaa.Eng
open Go.RowKit
set_option maxRecDepth 100000
def ra10 : Ent := ⟨38, [(.agg [(.d (.val (.int .i64 3000))), (.d (.val (.int .i64 1500))), (.d (.val (.int .i64 10))), (.d (.val (.int .i64 540000))), (.d (.val (.int .i64 720000)))]), (.sl 4 0 5 (some 5))], 4083, (.nd none .lf (.nd none (.nd (some (.bx none 2 5 [(.d (.val (.int .i64 200))), (.d (.val (.int .i64 250))), (.d (.val (.int .i64 260))), (.d (.val (.int .i64 300))), (.d (.val (.int .i64 390)))] .lf false)) .lf .lf) .lf)), ⟨(.tup [(.sl 14333 0 5 (some 5)), (.d (.val (.int .i64 0)))]), 14335, (.nd none (.nd none .lf (.nd none .lf (.nd none .lf (.nd none .lf (.nd none .lf (.nd none .lf (.nd none .lf (.nd none .lf (.nd none .lf (.nd none .lf (.nd none (.nd none .lf (.nd (some (.bx none 3 5 [(.d (.val (.int .i64 0)))] (.nd (some (.d (.val (.int .i64 2)))) (.nd (some (.d (.val (.int .i64 1)))) (.nd (some (.d (.val (.int .i64 2)))) .lf .lf) .lf) (.nd (some (.d (.val (.int .i64 1)))) (.nd (some (.d (.val (.int .i64 2)))) .lf .lf) .lf)) false)) .lf .lf)) .lf))))))))))) (.nd none (.nd (some (.bx none 2 5 [(.d (.val (.int .i64 200))), (.d (.val (.int .i64 250))), (.d (.val (.int .i64 260))), (.d (.val (.int .i64 300))), (.d (.val (.int .i64 390)))] .lf false)) .lf .lf) .lf))⟩⟩
theorem ra10_ok : Calls2 Try.prog ra10.f ra10.args ra10.n ra10.m ra10.q := chk_ok (fuel := 600) tabOk ztOk qtOk mtOk (known_sums smsOk) noGor mixed (by decide +kernel)
end Go.Proofs.Ytdkneonokbakjaa.Eng

noncomputable section
namespace Go.Proofs.Ytdkneonokbakjaa.Eng
open Go.RowKit
set_option maxRecDepth 100000
def raK : Known := ⟨[ra1, ra2, ra3, ra4, ra5, ra6, ra7, ra8, ra9, ra10], [], SMS⟩
theorem raK_ok : KnownOk Try.prog raK := (known_ent ra1_ok (known_ent ra2_ok (known_ent ra3_ok (known_ent ra4_ok (known_ent ra5_ok (known_ent ra6_ok (known_ent ra7_ok (known_ent ra8_ok (known_ent ra9_ok (known_ent ra10_ok (known_sums smsOk)))))))))))
theorem works_call : ACall Try.prog 17 [] (.val (.bool true)) := closed_call (n := 600) tabOk ztOk qtOk mtOk raK_ok noGor mixed (chkV_ok (by decide +kernel))
end Go.Proofs.Ytdkneonokbakjaa.Eng

noncomputable section
namespace Go.Proofs.Ytdkneonokbakjaa.Eng
open Go.RowKit
set_option maxRecDepth 100000
set_option maxHeartbeats 16000000
theorem many_c (ps : List Int) : ACall Try.prog 16 [intL ps] (bD (decide (20 < ps.length))) := by
  by_cases h : 20 < ps.length
  · have hi : (20 : Int) < ps.length := by omega
    rw [decide_eq_true h]
    refine acallK tabOk Try.func16 rfl rfl (show 1 ≤ _ by decide) rfl fun _ => ?_; simp only [Try.ntmps16]
    repeat (first | (with_reducible first | refine zq1 fun _ => ?_ | refine zq2 fun _ => ?_ | refine zq3 ?_) | ((first | refine zq4 ?_ | refine zq5 fun _ _ => ?_ | refine zq6 ?_); simp [-getElem?_pos, z0, z1, z2, h, hi]) | ((first | refine AWp.ret ?_ | refine AWp.skip ?_ | refine AWp.exit ?_); try simp only [thenP]) | (with_reducible refine zq7 ?_; simp only [blockP, thenP, reduceIte]) | with_reducible refine zq8 ?_)
    (first | refine RR.ret ?_ | refine RR.normal ?_); simp [z0]
  · have hi : ¬ (20 : Int) < ps.length := by omega
    rw [decide_eq_false h]
    refine acallK tabOk Try.func16 rfl rfl (show 1 ≤ _ by decide) rfl fun _ => ?_; simp only [Try.ntmps16]
    repeat (first | (with_reducible first | refine zq1 fun _ => ?_ | refine zq2 fun _ => ?_ | refine zq3 ?_) | ((first | refine zq4 ?_ | refine zq5 fun _ _ => ?_ | refine zq6 ?_); simp [-getElem?_pos, z0, z1, z2, h, hi]) | ((first | refine AWp.ret ?_ | refine AWp.skip ?_ | refine AWp.exit ?_); try simp only [thenP]) | (with_reducible refine zq7 ?_; simp only [blockP, thenP, reduceIte]) | with_reducible refine zq8 ?_)
    (first | refine RR.ret ?_ | refine RR.normal ?_); simp [z0]
theorem rimStones_c (s : RS) (ps : List Int) (p : Int) : ACall Try.prog 3 [stoD s, intL ps, iD p] (bD true) := by
  have cm := many_c ps
  have cw := works_call
  by_cases g : 20 < ps.length
  · rw [decide_eq_true g] at cm
    refine acallK tabOk Try.func3 rfl rfl (show 3 ≤ _ by decide) rfl fun _ => ?_; simp only [Try.ntmps3]
    repeat (first | (with_reducible first | refine zq1 fun _ => ?_ | refine zq2 fun _ => ?_ | refine zq3 ?_) | ((first | refine zq4 ?_ | refine zq5 fun _ _ => ?_ | refine zq6 ?_); simp [-getElem?_pos, z0, z1, z2, z0]) | ((first | refine AWp.ret ?_ | refine AWp.skip ?_ | refine AWp.exit ?_); try simp only [thenP]) | (with_reducible refine zq7 ?_; simp only [blockP, thenP, reduceIte]) | with_reducible refine zq8 ?_)
    (first | refine Exec0.call [] cm ?_ rfl ?_ ?_ | refine Exec.call [] cm ?_ rfl ?_ ?_); (focus simp [-getElem?_pos, z0]); (focus simp [-getElem?_pos, z0, z1, z2, z0]); simp [-getElem?_pos, z0, z1, z2, z0]
    repeat (first | (with_reducible first | refine zq1 fun _ => ?_ | refine zq2 fun _ => ?_ | refine zq3 ?_) | ((first | refine zq4 ?_ | refine zq5 fun _ _ => ?_ | refine zq6 ?_); simp [-getElem?_pos, z0, z1, z2, z0]) | ((first | refine AWp.ret ?_ | refine AWp.skip ?_ | refine AWp.exit ?_); try simp only [thenP]) | (with_reducible refine zq7 ?_; simp only [blockP, thenP, reduceIte]) | with_reducible refine zq8 ?_)
    (first | refine Exec0.call [] cw ?_ rfl ?_ ?_ | refine Exec.call [] cw ?_ rfl ?_ ?_); (focus simp [-getElem?_pos, z0]); (focus simp [-getElem?_pos, z0, z1, z2, z0]); simp [-getElem?_pos, z0, z1, z2, z0]
    repeat (first | (with_reducible first | refine zq1 fun _ => ?_ | refine zq2 fun _ => ?_ | refine zq3 ?_) | ((first | refine zq4 ?_ | refine zq5 fun _ _ => ?_ | refine zq6 ?_); simp [-getElem?_pos, z0, z1, z2, z0]) | ((first | refine AWp.ret ?_ | refine AWp.skip ?_ | refine AWp.exit ?_); try simp only [thenP]) | (with_reducible refine zq7 ?_; simp only [blockP, thenP, reduceIte]) | with_reducible refine zq8 ?_)
    (first | refine RR.ret ?_ | refine RR.normal ?_); simp [z0]
  rw [decide_eq_false g] at cm
  have hl : ps.length ≤ 1000000 := by omega
  have c1 := checkStone_c s ps hl
  have c2 := refCheckStone_c s ps hl
  have c3 := allowed_c s ps hl p
  have c4 := refAllowed_c s ps hl p
  have c5 := gap_c s ps hl
  have c6 := refGap_c s ps hl
  generalize stoE s ps = e1 at *
  generalize allE s ps p = e2 at *
  generalize allV s ps p = v2 at *
  generalize gapE s ps = e3 at *
  generalize gapV s ps = v3 at *
  obtain ⟨x, y⟩ := v2
  refine acallK tabOk Try.func3 rfl rfl (show 3 ≤ _ by decide) rfl fun _ => ?_; simp only [Try.ntmps3]
  repeat (first | (with_reducible first | refine zq1 fun _ => ?_ | refine zq2 fun _ => ?_ | refine zq3 ?_) | ((first | refine zq4 ?_ | refine zq5 fun _ _ => ?_ | refine zq6 ?_); simp [-getElem?_pos, z0, z1, z2, z0]) | ((first | refine AWp.ret ?_ | refine AWp.skip ?_ | refine AWp.exit ?_); try simp only [thenP]) | (with_reducible refine zq7 ?_; simp only [blockP, thenP, reduceIte]) | with_reducible refine zq8 ?_)
  (first | refine Exec0.call [] cm ?_ rfl ?_ ?_ | refine Exec.call [] cm ?_ rfl ?_ ?_); (focus simp [-getElem?_pos, z0]); (focus simp [-getElem?_pos, z0, z1, z2, z0]); simp [-getElem?_pos, z0, z1, z2, z0]
  repeat (first | (with_reducible first | refine zq1 fun _ => ?_ | refine zq2 fun _ => ?_ | refine zq3 ?_) | ((first | refine zq4 ?_ | refine zq5 fun _ _ => ?_ | refine zq6 ?_); simp [-getElem?_pos, z0, z1, z2, z0]) | ((first | refine AWp.ret ?_ | refine AWp.skip ?_ | refine AWp.exit ?_); try simp only [thenP]) | (with_reducible refine zq7 ?_; simp only [blockP, thenP, reduceIte]) | with_reducible refine zq8 ?_)
  (first | refine Exec0.call [] c3 ?_ rfl ?_ ?_ | refine Exec.call [] c3 ?_ rfl ?_ ?_); (focus simp [-getElem?_pos, z0]); (focus simp [-getElem?_pos, z0, z1, z2, z0]); simp [-getElem?_pos, z0, z1, z2, z0]
  repeat (first | (with_reducible first | refine zq1 fun _ => ?_ | refine zq2 fun _ => ?_ | refine zq3 ?_) | ((first | refine zq4 ?_ | refine zq5 fun _ _ => ?_ | refine zq6 ?_); simp [-getElem?_pos, z0, z1, z2, z0]) | ((first | refine AWp.ret ?_ | refine AWp.skip ?_ | refine AWp.exit ?_); try simp only [thenP]) | (with_reducible refine zq7 ?_; simp only [blockP, thenP, reduceIte]) | with_reducible refine zq8 ?_)
  (first | refine Exec0.call [] c4 ?_ rfl ?_ ?_ | refine Exec.call [] c4 ?_ rfl ?_ ?_); (focus simp [-getElem?_pos, z0]); (focus simp [-getElem?_pos, z0, z1, z2, z0]); simp [-getElem?_pos, z0, z1, z2, z0]
  repeat (first | (with_reducible first | refine zq1 fun _ => ?_ | refine zq2 fun _ => ?_ | refine zq3 ?_) | ((first | refine zq4 ?_ | refine zq5 fun _ _ => ?_ | refine zq6 ?_); simp [-getElem?_pos, z0, z1, z2, z0]) | ((first | refine AWp.ret ?_ | refine AWp.skip ?_ | refine AWp.exit ?_); try simp only [thenP]) | (with_reducible refine zq7 ?_; simp only [blockP, thenP, reduceIte]) | with_reducible refine zq8 ?_)
  (first | refine Exec0.call [] c5 ?_ rfl ?_ ?_ | refine Exec.call [] c5 ?_ rfl ?_ ?_); (focus simp [-getElem?_pos, z0]); (focus simp [-getElem?_pos, z0, z1, z2, z0]); simp [-getElem?_pos, z0, z1, z2, z0]
  repeat (first | (with_reducible first | refine zq1 fun _ => ?_ | refine zq2 fun _ => ?_ | refine zq3 ?_) | ((first | refine zq4 ?_ | refine zq5 fun _ _ => ?_ | refine zq6 ?_); simp [-getElem?_pos, z0, z1, z2, z0]) | ((first | refine AWp.ret ?_ | refine AWp.skip ?_ | refine AWp.exit ?_); try simp only [thenP]) | (with_reducible refine zq7 ?_; simp only [blockP, thenP, reduceIte]) | with_reducible refine zq8 ?_)
  (first | refine Exec0.call [] c6 ?_ rfl ?_ ?_ | refine Exec.call [] c6 ?_ rfl ?_ ?_); (focus simp [-getElem?_pos, z0]); (focus simp [-getElem?_pos, z0, z1, z2, z0]); simp [-getElem?_pos, z0, z1, z2, z0]
  repeat (first | (with_reducible first | refine zq1 fun _ => ?_ | refine zq2 fun _ => ?_ | refine zq3 ?_) | ((first | refine zq4 ?_ | refine zq5 fun _ _ => ?_ | refine zq6 ?_); simp [-getElem?_pos, z0, z1, z2, z0]) | ((first | refine AWp.ret ?_ | refine AWp.skip ?_ | refine AWp.exit ?_); try simp only [thenP]) | (with_reducible refine zq7 ?_; simp only [blockP, thenP, reduceIte]) | with_reducible refine zq8 ?_)
  (first | refine Exec0.call [] c1 ?_ rfl ?_ ?_ | refine Exec.call [] c1 ?_ rfl ?_ ?_); (focus simp [-getElem?_pos, z0]); (focus simp [-getElem?_pos, z0, z1, z2, z0]); simp [-getElem?_pos, z0, z1, z2, z0]
  repeat (first | (with_reducible first | refine zq1 fun _ => ?_ | refine zq2 fun _ => ?_ | refine zq3 ?_) | ((first | refine zq4 ?_ | refine zq5 fun _ _ => ?_ | refine zq6 ?_); simp [-getElem?_pos, z0, z1, z2, z0]) | ((first | refine AWp.ret ?_ | refine AWp.skip ?_ | refine AWp.exit ?_); try simp only [thenP]) | (with_reducible refine zq7 ?_; simp only [blockP, thenP, reduceIte]) | with_reducible refine zq8 ?_)
  (first | refine Exec0.call [] c2 ?_ rfl ?_ ?_ | refine Exec.call [] c2 ?_ rfl ?_ ?_); (focus simp [-getElem?_pos, z0]); (focus simp [-getElem?_pos, z0, z1, z2, z0]); simp [-getElem?_pos, z0, z1, z2, z0]
  repeat (first | (with_reducible first | refine zq1 fun _ => ?_ | refine zq2 fun _ => ?_ | refine zq3 ?_) | ((first | refine zq4 ?_ | refine zq5 fun _ _ => ?_ | refine zq6 ?_); simp [-getElem?_pos, z0, z1, z2, z0]) | ((first | refine AWp.ret ?_ | refine AWp.skip ?_ | refine AWp.exit ?_); try simp only [thenP]) | (with_reducible refine zq7 ?_; simp only [blockP, thenP, reduceIte]) | with_reducible refine zq8 ?_)
  (first | refine Exec0.call [] cw ?_ rfl ?_ ?_ | refine Exec.call [] cw ?_ rfl ?_ ?_); (focus simp [-getElem?_pos, z0]); (focus simp [-getElem?_pos, z0, z1, z2, z0]); simp [-getElem?_pos, z0, z1, z2, z0]
  repeat (first | (with_reducible first | refine zq1 fun _ => ?_ | refine zq2 fun _ => ?_ | refine zq3 ?_) | ((first | refine zq4 ?_ | refine zq5 fun _ _ => ?_ | refine zq6 ?_); simp [-getElem?_pos, z0, z1, z2, z0]) | ((first | refine AWp.ret ?_ | refine AWp.skip ?_ | refine AWp.exit ?_); try simp only [thenP]) | (with_reducible refine zq7 ?_; simp only [blockP, thenP, reduceIte]) | with_reducible refine zq8 ?_)
  (first | refine RR.ret ?_ | refine RR.normal ?_); simp [z0]
end Go.Proofs.Ytdkneonokbakjaa.Eng

namespace Go.Proofs.Ytdkneonokbakjaa
open Go.ChangeShapes Go.WideShapes Go.ChangeAt Go.RowKit
theorem post_later {H : Type} {enc : TypeId × Value → H} {P : Program} {f : Func} {s : ChangeSpec} {apart fresh handsOn again : Bool} {W W' : World} {args : Array Value} {v : Value} {ds gs : List (DataW H)} {before pa pv : List MemPlace}
    (hW : DataW.Whole enc P f.params.toList s.vars apart W args.toList ds gs before) (hsplit : before = pa ++ pv)
    (hr : ∀ (b : Nat) (sp : Nat → Bool) (hd : Bool), DataW.TrodAll enc P W' b sp hd f.resultTypes.toList (v.resultList f.resultTypes.size) (s.fn H (ds ++ gs)).results [])
    (ha : ∀ sp : Nat → Bool, (∀ p ∈ before, sp p.block = true) → DataW.TrodAll enc P W' 0 sp true f.params.toList args.toList (s.fn H (ds ++ gs)).args pa)
    (hv : ∀ sp : Nat → Bool, (∀ p ∈ before, sp p.block = true) → DataW.TrodVars enc P W' sp s.vars (s.fn H (ds ++ gs)).vars pv)
    (hk : ∀ (j : Nat) (t : TypeId) (r : Value), f.resultTypes[j]? = some t → (v.resultList f.resultTypes.size)[j]? = some r → Value.okWide P W' .any 0 t r)
    (hb : Below W.heap.size W W') : s.post enc P f apart fresh handsOn again W args v W' := by
  have inside : ∀ p, p ∈ before → p.block < W.heap.size := fun p hp => hW.lt p hp
  have keep : ∀ p ∈ before, (decide ((p : MemPlace).block < W.heap.size)) = true := fun p hp => decide_eq_true (inside p hp)
  refine ⟨ds, gs, before, [], pa, pv, hW, hr _ _ _, ha (fun b => decide (b < W.heap.size)) keep, hv (fun b => decide (b < W.heap.size)) keep, ?_, ?_⟩
  · refine World.keptBut_mono (fun p hp => ⟨hp, ?_⟩) (hb.frame (· ∈ before))
    right
    rw [hsplit, List.mem_append] at hp
    exact hp
  · intro _
    obtain ⟨_, _, _, _, _, hz, hn⟩ := hW
    have e : [] ++ pa ++ pv = before := by rw [hsplit, List.nil_append]
    refine ⟨hk, _, _, [] ++ pa ++ pv, ⟨[] ++ pa, pv, trodAll_append (ha _ fun _ _ => rfl) (hr _ _ _), hv _ fun _ _ => rfl, rfl, fun b off hp => ?_, fun h => ?_⟩, fun p hp _ => ?_⟩
    · rw [e] at hp
      rw [hb.frozen (inside _ hp)]
      exact hz b off hp
    · have := hn h
      rw [← e] at this
      simpa using this
    · rw [e] at hp
      simpa using hp
end Go.Proofs.Ytdkneonokbakjaa

namespace Go.Proofs.Ytdkneonokbakjaa.Eng
open Go.ChangeShapes Go.WideShapes Go.ChangeAt Go.RowKit Go.Deep
inductive Sh where
  | int (k : IntKind)
  | bool
  | nil
  | cons (s r : Sh)
  | sl (s : Sh)
  | arr (n : Nat) (s : Sh)
def Sh.size : Sh → Nat
  | .int _ => 1
  | .bool => 1
  | .nil => 0
  | .cons s r => s.size + r.size
  | .sl _ => 1
  | .arr n s => n * s.size
def Sh.Row : Sh → List Dat → Prop
  | .int k, r => ∃ n, r = [.val (.int k n)] ∧ (Lit.int k n).wf = true
  | .bool, r => ∃ b, r = [.val (.bool b)]
  | .nil, r => r = []
  | .cons s t, r => ∃ a b, r = a ++ b ∧ s.Row a ∧ t.Row b
  | .sl s, r => ∃ rows : List (List Dat), r = [.list rows] ∧ ∀ x ∈ rows, s.Row x
  | .arr n s, r => ∃ rows : List (List Dat), rows.length = n ∧ r = rows.flatten ∧ ∀ x ∈ rows, s.Row x
theorem Sh.Row.len : ∀ {s : Sh} {r : List Dat}, s.Row r → r.length = s.size
  | .int k, _, ⟨n, h, _⟩ => by rw [h]; rfl
  | .bool, _, ⟨b, h⟩ => by rw [h]; rfl
  | .nil, _, h => by rw [show _ = [] from h]; rfl
  | .cons s t, _, ⟨a, b, h, ha, hb⟩ => by rw [h, List.length_append, Sh.Row.len ha, Sh.Row.len hb]; rfl
  | .sl s, _, ⟨rows, h, _⟩ => by rw [h]; rfl
  | .arr n s, _, ⟨rows, h1, h2, h3⟩ => by
    rw [h2, List.length_flatten]
    have : ∀ l : List (List Dat), (∀ x ∈ l, s.Row x) → (l.map List.length).sum = l.length * s.size := by
      intro l
      induction l with
      | nil => intro _; simp
      | cons x l ih =>
        intro h
        rw [List.map_cons, List.sum_cons, ih fun y hy => h y (List.mem_cons_of_mem _ hy), Sh.Row.len (h x List.mem_cons_self), List.length_cons, Nat.add_mul, Nat.one_mul, Nat.add_comm]
    rw [this rows h3, h1]
    rfl
theorem Sh.Row.one : ∀ {s : Sh} {r : List Dat}, s.Row r → ∀ c ∈ r, c.one = true
  | .int k, _, ⟨n, h, _⟩, c, hc => by subst h; simp at hc; subst hc; rfl
  | .bool, _, ⟨b, h⟩, c, hc => by subst h; simp at hc; subst hc; rfl
  | .nil, _, h, c, hc => by rw [show _ = [] from h] at hc; simp at hc
  | .cons s t, _, ⟨a, b, h, ha, hb⟩, c, hc => by
    subst h
    rcases List.mem_append.1 hc with hc | hc
    · exact Sh.Row.one ha c hc
    · exact Sh.Row.one hb c hc
  | .sl s, _, ⟨rows, h, _⟩, c, hc => by subst h; simp at hc; subst hc; rfl
  | .arr n s, _, ⟨rows, h1, h2, h3⟩, c, hc => by
    subst h2
    obtain ⟨x, hx, hcx⟩ := List.mem_flatten.1 hc
    exact Sh.Row.one (h3 x hx) c hcx
def Sh.flds (P : Program) (ok : Sh → TypeId → Bool) : Sh → List Field → Nat → Bool
  | .nil, [], _ => true
  | .cons s r, f :: fs, o => f.offset == o && P.cellsOf f.type == s.size && ok s f.type && r.flds P ok fs (o + s.size)
  | _, _, _ => false
def Sh.okF (P : Program) : Nat → Sh → TypeId → Bool
  | 0, _, _ => false
  | n + 1, s, t => match P.underlying t with
    | some (.int k) => match s with
      | .int k' => decide (k' = k)
      | _ => false
    | some .bool => match s with
      | .bool => true
      | _ => false
    | some (.struct fs) => P.cellsOf t == s.size && s.flds P (Sh.okF P n) fs.toList 0
    | some (.slice e) => match s with
      | .sl s' => Nat.ble 1 s'.size && P.cellsOf e == s'.size && Sh.okF P n s' e
      | _ => false
    | some (.array m e) => match s with
      | .arr m' s' => m == m' && P.cellsOf e == s'.size && P.cellsOf t == m * s'.size && Sh.okF P n s' e
      | _ => false
    | _ => false
section
variable {H : Type} {enc : TypeId × Value → H} {P : Program} {w : World}
def Read (w : World) (s : Sh) (cs : List Value) : Prop := cs.length = s.size ∧ ∃ r, s.Row r ∧ ∀ (j : Nat) c u, r[j]? = some c → cs[j]? = some u → RepD (· < w.heap.size) w c u
def Opens (enc : TypeId × Value → H) (P : Program) (w : World) (s : Sh) (t : TypeId) : Prop := ∀ fuel cs x, DataW.trod enc P w 0 (fun _ => true) true fuel t cs = some x → Read w s cs
theorem read_list {α : Type} {R : Nat → α → Prop} : ∀ (n : Nat), (∀ i, i < n → ∃ x, R i x) → ∃ l : List α, l.length = n ∧ ∀ i x, l[i]? = some x → R i x
  | 0, _ => ⟨[], rfl, fun i x h => by simp at h⟩
  | n + 1, h => by
    obtain ⟨l, hl, hx⟩ := read_list n fun i hi => h i (by omega)
    obtain ⟨y, hy⟩ := h n (by omega)
    refine ⟨l ++ [y], by simp [hl], fun i x hi => ?_⟩
    rcases Nat.lt_or_ge i n with h1 | h1
    · rw [List.getElem?_append_left (by omega)] at hi
      exact hx i x hi
    · rw [List.getElem?_append_right (by omega)] at hi
      have : i = n := by
        have := (List.getElem?_eq_some_iff.1 hi).1
        simp at this
        omega
      subst this
      simp [hl] at hi
      subst hi
      exact hy
theorem opens_slice {s : Sh} {t e : TypeId} (ht : P.underlying t = some (.slice e)) (h0 : 0 < s.size) (hc : P.cellsOf e = s.size) (he : Opens enc P w s e) : Opens enc P w (.sl s) t := by
  intro fuel cs x h
  rcases open_slice ht h with ⟨h1, _⟩ | ⟨a, len, cap, m, n, D, Pl, hcs, hb, hl, hmx, hm, hx, hel⟩
  · subst h1
    refine ⟨rfl, [.list []], ⟨[], rfl, by simp⟩, fun j c u hj hu => ?_⟩
    match j with
    | 0 =>
      simp at hj hu
      subst hj; subst hu
      exact .list [] none 0 (fun _ _ => default) (by simp) (by decide) (by simp) (by simp) (by simp)
    | j + 1 => simp at hj
  · have hmc : m = cap := by simpa using hm
    obtain ⟨b, off, spot⟩ := a
    have cell : ∀ i, i < m → ∃ cs', cs'.length = s.size ∧ (∀ j u, cs'[j]? = some u → w.cell? (Addr.add ⟨b, off, spot⟩ (i * s.size + j)) = some u) ∧ Read w s cs' := by
      intro i hi
      obtain ⟨cs', h1, h2⟩ := hel i hi
      rw [hc] at h1
      obtain ⟨_, hlen, hat⟩ := World.cells?_some h1
      refine ⟨cs', hlen, fun j u hj => ?_, he _ _ _ h2⟩
      have hjl : j < s.size := by rw [← hlen]; exact (List.getElem?_eq_some_iff.1 hj).1
      rw [← Go.Deep.add_add, hat j hjl, hj]
    subst hcs
    refine ⟨rfl, ?_⟩
    rcases Nat.eq_zero_or_pos len with hm0 | hm0
    · subst hm0
      refine ⟨[.list []], ⟨[], rfl, by simp⟩, fun j c u hj hu => ?_⟩
      match j with
      | 0 =>
        simp at hj hu
        subst hj; subst hu
        exact .list [] _ cap (fun _ _ => default) (by simp) hmx (by simp) (by simp) (by simp)
      | j + 1 => simp at hj
    · have hsp : spot = none := by
        obtain ⟨cs', h1, h2, _⟩ := cell 0 (by omega)
        have h3 : cs'[0]? = some (cs'[0]'(by omega)) := List.getElem?_eq_getElem (by omega)
        have := World.cell?_spot (h2 0 _ h3)
        simpa [Addr.add] using this
      subst hsp
      have hb2 : b < w.heap.size := by
        obtain ⟨cs', h1, h2, _⟩ := cell 0 (by omega)
        have h3 : cs'[0]? = some (cs'[0]'(by omega)) := List.getElem?_eq_getElem (by omega)
        have h4 := World.block_lt_of_cell? w _ (h2 0 _ h3)
        simpa [Addr.add] using h4
      obtain ⟨rows, hrl, hrx⟩ := read_list (R := fun i (r : List Dat) => s.Row r ∧ ∀ (j : Nat) c, r[j]? = some c → ∃ u, w.cell? ⟨b, off + i * s.size + j, none⟩ = some u ∧ RepD (· < w.heap.size) w c u) len fun i hi => by
        obtain ⟨cs', h1, h2, h3, r, h4, h5⟩ := cell i (by omega)
        refine ⟨r, h4, fun j c hj => ?_⟩
        have hjl : j < s.size := by rw [← h4.len]; exact (List.getElem?_eq_some_iff.1 hj).1
        have hu : cs'[j]? = some (cs'[j]'(by omega)) := List.getElem?_eq_getElem (by omega)
        refine ⟨_, ?_, h5 j c _ hj hu⟩
        have := h2 j _ hu
        by_cases e0 : i * s.size + j = 0
        · rw [e0] at this
          rw [show off + i * s.size + j = off by omega]
          simpa [Addr.add] using this
        · simp only [Addr.add, if_neg e0] at this
          rwa [Nat.add_assoc]
      have hmem : ∀ r ∈ rows, s.Row r := fun r hr => by
        obtain ⟨i, hi⟩ := List.getElem?_of_mem hr
        exact (hrx i r hi).1
      refine ⟨[.list rows], ⟨rows, rfl, hmem⟩, fun j c u hj hu => ?_⟩
      match j with
      | 0 =>
        simp at hj hu
        subst hj; subst hu
        rw [← hrl]
        refine .list rows _ cap (fun i j => (w.cell? ⟨b, off + i * s.size + j, none⟩).getD default) (by omega) hmx (fun r hr => (hmem r hr).one) (fun _ => ⟨b, off, s.size, rfl, hb2, fun r hr => (hmem r hr).len, fun i j hi hj => ?_⟩) fun i j r c hr hc => ?_
        · have hri := hrx i _ (List.getElem?_eq_getElem hi)
          obtain ⟨u, hu, _⟩ := hri.2 j _ (List.getElem?_eq_getElem (by rw [hri.1.len]; exact hj))
          rw [hu]; rfl
        · obtain ⟨u, hu, hru⟩ := (hrx i r hr).2 j c hc
          rw [hu]; exact hru
      | j + 1 => simp at hj
theorem Read.app {s r : Sh} {a b : List Value} (ha : Read w s a) (hb : Read w r b) : Read w (.cons s r) (a ++ b) := by
  obtain ⟨h1, x, h2, h3⟩ := ha
  obtain ⟨k1, y, k2, k3⟩ := hb
  refine ⟨by rw [List.length_append, h1, k1]; rfl, x ++ y, ⟨x, y, rfl, h2, k2⟩, fun j c u hc hu => ?_⟩
  have hx := h2.len
  by_cases hj : j < x.length
  · rw [List.getElem?_append_left hj] at hc
    rw [List.getElem?_append_left (by omega)] at hu
    exact h3 j c u hc hu
  · rw [List.getElem?_append_right (by omega)] at hc
    rw [List.getElem?_append_right (by omega)] at hu
    rw [hx, ← h1] at hc
    exact k3 _ c u hc hu
theorem read_flds {ok : Sh → TypeId → Bool} {m : Nat} (hok : ∀ s t, ok s t = true → Opens enc P w s t) {cs : List Value} : ∀ (s : Sh) (fs : List Field) (o : Nat), s.flds P ok fs o = true → o + s.size = cs.length →
    (∀ f ∈ fs, ∃ y, DataW.trod enc P w 0 (fun _ => true) true m f.type ((cs.drop f.offset).take (P.cellsOf f.type)) = some y) → Read w s (cs.drop o)
  | .nil, [], o, _, hl, _ => by
    rw [List.drop_eq_nil_of_le (by simp only [Sh.size] at hl; omega)]
    exact ⟨rfl, [], rfl, by simp⟩
  | .cons s r, f :: fs, o, h, hl, hf => by
    simp only [Sh.flds, Bool.and_eq_true, beq_iff_eq] at h
    obtain ⟨⟨⟨h1, h2⟩, h3⟩, h4⟩ := h
    obtain ⟨y, hy⟩ := hf f List.mem_cons_self
    rw [h1, h2] at hy
    have k1 := hok s f.type h3 _ _ _ hy
    have k2 := read_flds hok r fs (o + s.size) h4 (by simp only [Sh.size] at hl; omega) fun g hg => hf g (List.mem_cons_of_mem _ hg)
    have := k1.app k2
    rwa [← List.drop_drop, List.take_append_drop] at this
  | .nil, _ :: _, _, h, _, _ => by simp [Sh.flds] at h
  | .cons _ _, [], _, h, _, _ => by simp [Sh.flds] at h
  | .int _, _, _, h, _, _ => by simp [Sh.flds] at h
  | .bool, _, _, h, _, _ => by simp [Sh.flds] at h
  | .sl _, _, _, h, _, _ => by simp [Sh.flds] at h
  | .arr _ _, _, _, h, _, _ => by simp [Sh.flds] at h
theorem read_arr {s : Sh} : ∀ (n : Nat) (cs : List Value), cs.length = n * s.size → (∀ i, i < n → Read w s ((cs.drop (i * s.size)).take s.size)) → Read w (.arr n s) cs
  | 0, cs, hl, _ => by
    have : cs = [] := List.eq_nil_of_length_eq_zero (by rw [hl, Nat.zero_mul])
    subst this
    exact ⟨by simp [Sh.size], [], ⟨[], rfl, rfl, by simp⟩, by simp⟩
  | n + 1, cs, hl, h => by
    have h0 := h 0 (by omega)
    rw [Nat.zero_mul, List.drop_zero] at h0
    have h1 := read_arr (s := s) n (cs.drop s.size) (by rw [List.length_drop, hl, Nat.add_mul]; omega) fun i hi => by
      have := h (i + 1) (by omega)
      rw [List.drop_drop]
      rwa [Nat.add_mul, Nat.one_mul, Nat.add_comm] at this
    obtain ⟨a1, a, a2, a3⟩ := h0
    obtain ⟨b1, b, ⟨rows, b2, b3, b4⟩, b5⟩ := h1
    refine ⟨hl, a ++ b, ⟨a :: rows, by simp [b2], by simp [b3], fun x hx => ?_⟩, fun j c u hc hu => ?_⟩
    · rcases List.mem_cons.1 hx with rfl | hx
      · exact a2
      · exact b4 x hx
    · have hx := a2.len
      rw [← List.take_append_drop s.size cs] at hu
      by_cases hj : j < a.length
      · rw [List.getElem?_append_left hj] at hc
        rw [List.getElem?_append_left (by omega)] at hu
        exact a3 j c u hc hu
      · rw [List.getElem?_append_right (by omega)] at hc
        rw [List.getElem?_append_right (by omega)] at hu
        rw [hx, ← a1] at hc
        exact b5 _ c u hc hu
theorem okF_opens : ∀ (n : Nat) (s : Sh) (t : TypeId), s.okF P n t = true → Opens enc P w s t
  | 0, s, t, h => by simp [Sh.okF] at h
  | n + 1, s, t, h => by
    unfold Sh.okF at h
    split at h
    · rename_i k hu
      split at h
      · rename_i k'
        obtain rfl := of_decide_eq_true h
        intro fuel cs x hx
        obtain ⟨m, rfl, _, hw⟩ := DataW.trod_int hu hx
        refine ⟨rfl, _, ⟨m, rfl, hw⟩, fun j c u hc hu => ?_⟩
        match j with
        | 0 => simp at hc hu; subst hc; subst hu; exact .val _ rfl
        | j + 1 => simp at hc
      · cases h
    · rename_i hu
      split at h
      · intro fuel cs x hx
        obtain ⟨m, rfl, _⟩ := DataW.trod_bool hu hx
        refine ⟨rfl, _, ⟨m, rfl⟩, fun j c u hc hu => ?_⟩
        match j with
        | 0 => simp at hc hu; subst hc; subst hu; exact .val _ rfl
        | j + 1 => simp at hc
      · cases h
    · rename_i fs hu
      simp only [Bool.and_eq_true, beq_iff_eq] at h
      intro fuel cs x hx
      obtain ⟨xs, m, _, _, hl, hxl, hf⟩ := DataW.trod_struct hu hx
      have := read_flds (okF_opens n) s fs.toList 0 h.2 (by rw [hl, h.1]; omega) (m := m) (cs := cs) fun f hf' => by
        obtain ⟨i, hi⟩ := List.getElem?_of_mem hf'
        have hi2 : fs[i]? = some f := by simpa using hi
        have hlt : i < fs.size := (Array.getElem?_eq_some_iff.1 hi2).1
        exact ⟨_, (hf i f hi2).trans (List.getElem?_eq_getElem (by omega))⟩
      rwa [List.drop_zero] at this
    · rename_i e hu
      split at h
      · rename_i s'
        simp only [Bool.and_eq_true, beq_iff_eq] at h
        exact opens_slice hu (Nat.le_of_ble_eq_true h.1.1) h.1.2 (okF_opens n s' e h.2)
      · cases h
    · rename_i m e hu
      split at h
      · rename_i m' s'
        simp only [Bool.and_eq_true, beq_iff_eq] at h
        obtain ⟨⟨⟨rfl, h2⟩, h3⟩, h4⟩ := h
        intro fuel cs x hx
        obtain ⟨xs, k, _, _, hl, hxl, hf⟩ := DataW.trod_array hu hx
        refine read_arr m cs (by rw [hl, h3]) fun i hi => ?_
        have := hf i hi
        rw [List.getElem?_eq_getElem (by omega), h2] at this
        exact okF_opens n s' e h4 _ _ _ this
      · cases h
    · cases h
def Sh.D : Sh → Dat → Prop
  | .int k, d => ∃ n, d = .val (.int k n) ∧ (Lit.int k n).wf = true
  | .bool, d => ∃ b, d = .val (.bool b)
  | .sl s, d => ∃ rows : List (List Dat), d = .list rows ∧ ∀ x ∈ rows, s.Row x
  | s, d => ∃ r, d = .agg r ∧ s.Row r
set_option maxRecDepth 100000 in
theorem open_sh (s : Sh) {n : Nat} {base : Nat} {t : TypeId} {v : Value} {d : DataW H} {p : List MemPlace} (hs : s.okF P n t = true) (hv : Value.okWide P w .any base t v) (h : DataW.Trod enc P w 0 (fun _ => true) true t v d p) :
    ∃ D, s.D D ∧ RepD (· < w.heap.size) w D v := by
  obtain ⟨fuel, hf⟩ := h
  have key := okF_opens (enc := enc) (w := w) n s t hs _ _ _ hf
  cases n with
  | zero => simp [Sh.okF] at hs
  | succ n =>
    unfold Sh.okF at hs
    have agg : ∀ cs, v = .agg cs → (s.D = fun d => ∃ r, d = .agg r ∧ s.Row r) → ∃ D, s.D D ∧ RepD (· < w.heap.size) w D v := fun ⟨cs⟩ e hD => by
      subst e
      obtain ⟨k1, r, k2, k3⟩ := key
      refine ⟨.agg r, by rw [hD]; exact ⟨r, rfl, k2⟩, .agg r _ ?_ k2.one fun i c u hc hu => k3 i c u hc (show cs[i]? = some u by simpa using hu)⟩
      rw [k2.len, ← k1]
      rfl
    split at hs
    · rename_i k hu
      split at hs
      · obtain ⟨m, rfl⟩ := okWide_int hu hv
        obtain ⟨k1, r, ⟨m', rfl, hw⟩, k3⟩ := key
        have := k3 0 _ _ rfl rfl
        exact ⟨_, ⟨m', rfl, hw⟩, this⟩
      · cases hs
    · rename_i hu
      split at hs
      · obtain ⟨m, rfl⟩ := okWide_bool hu hv
        obtain ⟨k1, r, ⟨m', rfl⟩, k3⟩ := key
        exact ⟨_, ⟨m', rfl⟩, k3 0 _ _ rfl rfl⟩
      · cases hs
    · rename_i fs hu
      obtain ⟨cs, e, _⟩ := okWide_struct hu hv
      simp only [Bool.and_eq_true] at hs
      refine agg cs e ?_
      cases s with
      | nil => rfl
      | cons => rfl
      | _ => simp [Sh.flds] at hs
    · rename_i e hu
      split at hs
      · obtain ⟨a, l, c, rfl⟩ := okWide_slice hu hv
        obtain ⟨k1, r, ⟨rows, rfl, hw⟩, k3⟩ := key
        exact ⟨_, ⟨rows, rfl, hw⟩, k3 0 _ _ rfl rfl⟩
      · cases hs
    · rename_i m e hu
      simp only [Value.okWide, hu] at hv
      obtain ⟨cs, e1, _⟩ := hv
      split at hs
      · exact agg cs e1 rfl
      · cases hs
    · cases hs
end
theorem args_later' {H : Type} {enc : TypeId × Value → H} {P : Program} {W W' : World} {T : TypeId → Prop} (K : Kids P T) (hz : ∀ t e, T t → P.underlying t = some (.slice e) → 0 < P.cellsOf e) {ts : List TypeId} {vs : List Value} {ds : List (DataW H)} {ps : List MemPlace}
    (hT : ∀ t ∈ ts, T t) (h : DataW.TrodAll enc P W 0 (fun _ => true) true ts vs ds ps) (hb : Below W.heap.size W W') {sp : Nat → Bool} (hs : ∀ p ∈ ps, sp p.block = true) : DataW.TrodAll enc P W' 0 sp true ts vs ds ps := by
  have carry : ∀ {ts : List TypeId} {vs : List Value} {ds : List (DataW H)} {ps : List MemPlace}, DataW.TrodAll enc P W 0 (fun _ => true) true ts vs ds ps → DataW.TrodAll enc P W' 0 (fun _ => true) true ts vs ds ps := by
    intro ts
    induction ts with
    | nil =>
      intro vs ds ps h
      obtain ⟨rfl, rfl, rfl⟩ := trodAll_nil h
      rfl
    | cons t ts ih =>
      intro vs ds ps h
      obtain ⟨v, vs1, d, ds1, a, b, rfl, rfl, rfl, ⟨n, h1⟩, h2⟩ := trodAll_cons h
      refine ⟨a, b, ⟨n, DataW.trod_carry n _ _ _ h1 fun p hp => ?_⟩, ih h2, rfl⟩
      have hlt := DataW.trod_lt n _ _ _ h1 p hp
      cases p with
      | cell bl off => exact hb.cell (p := ⟨bl, off, none⟩) hlt
      | map bl => exact hb.block bl hlt
  exact (carry h).respare K hz hT hs
theorem rows_of {α : Type} {f : α → List Dat} : ∀ {rows : List (List Dat)}, (∀ x ∈ rows, ∃ a, x = f a) → ∃ l : List α, rows = l.map f
  | [], _ => ⟨[], rfl⟩
  | x :: rows, h => by
    obtain ⟨a, rfl⟩ := h x List.mem_cons_self
    obtain ⟨l, rfl⟩ := rows_of fun y hy => h y (List.mem_cons_of_mem _ hy)
    exact ⟨a :: l, rfl⟩
theorem ints_in {d : Dat} (h : (Sh.sl (.int .i64)).D d) : ∃ l : List Int, d = .list (l.map fun x => [.val (.int .i64 x)]) := by
  obtain ⟨rows, rfl, h⟩ := h
  obtain ⟨l, rfl⟩ := rows_of (f := fun x : Int => [.val (.int .i64 x)]) fun x hx => by
    obtain ⟨n, rfl, _⟩ := h x hx
    exact ⟨n, rfl⟩
  exact ⟨l, rfl⟩
theorem law_true {P : Program} {f : FuncId} {ds : List Dat} (h : ACall P f ds (.val (.bool true))) {W : World} {vs : Array Value} (hs : vs.size = ds.length) (hr : ∀ (i : Nat) d v, ds[i]? = some d → vs[i]? = some v → RepD (· < W.heap.size) W d v) :
    Calls P f vs W fun e w' => e = .returned (.bool true) ∧ Below W.heap.size W w' := by
  refine (h.calls (· < W.heap.size) W vs (fun _ h => h) hs hr).mono ?_
  rintro e w' ⟨v, rfl, hb, hv⟩
  cases hv
  exact ⟨rfl, hb⟩
theorem reps_nil {W : World} : ∀ (i : Nat) d v, ([] : List Dat)[i]? = some d → (#[] : Array Value)[i]? = some v → RepD (· < W.heap.size) W d v := fun i d v h => by simp at h
theorem reps_cons {W : World} {D : Dat} {ds : List Dat} {v : Value} {vs : List Value} (h : RepD (· < W.heap.size) W D v) (hr : ∀ (i : Nat) d v, ds[i]? = some d → (vs.toArray)[i]? = some v → RepD (· < W.heap.size) W d v) :
    ∀ (i : Nat) d u, (D :: ds)[i]? = some d → ((v :: vs).toArray)[i]? = some u → RepD (· < W.heap.size) W d u := fun i d u hd hu => by
  match i with
  | 0 => simp at hd hu; subst hd; subst hu; exact h
  | i + 1 => simp at hd hu; exact hr i d u hd (by simpa using hu)
end Go.Proofs.Ytdkneonokbakjaa.Eng

noncomputable section
namespace Go.Proofs.Ytdkneonokbakjaa.Eng
open Go.RowKit
def shRim : Sh := .cons (.int .i64) (.cons (.int .i64) (.cons (.int .i64) (.cons (.cons (.int .i64) (.cons (.int .i64) .nil)) .nil)))
theorem rim_in {d : Dat} (h : shRim.D d) : ∃ s : RS, d = stoD s := by
  obtain ⟨_, rfl, _, _, rfl, ⟨a, rfl, _⟩, _, _, rfl, ⟨b, rfl, _⟩, _, _, rfl, ⟨c, rfl, _⟩, _, _, rfl, ⟨_, _, rfl, ⟨x, rfl, _⟩, _, _, rfl, ⟨y, rfl, _⟩, rfl⟩, rfl⟩ := h
  exact ⟨⟨a, b, c, x, y⟩, rfl⟩
end Go.Proofs.Ytdkneonokbakjaa.Eng

namespace Go.Proofs.Ytdkneonokbakjaa.rimStones
open Go.ChangeShapes Go.WideShapes Go.ChangeAt Go.RowKit Go.Deep
theorem own : ownKnob Try.prog.godebug = none := by kernel_rfl
theorem kids : Kids Try.prog (· < Try.prog.types.size) := kids_rows (by kernel_rfl) (by kernel_rfl)
theorem full : ∀ t e, t < Try.prog.types.size → Try.prog.underlying t = some (.slice e) → 0 < Try.prog.cellsOf e := slices_full_of Try.prog (by kernel_rfl)
theorem rowed : ∀ t ∈ Try.f3.params.toList, t < Try.prog.types.size := of_decide_eq_true (by kernel_rfl)
set_option maxRecDepth 100000 in
set_option maxHeartbeats 1000000 in
theorem lifted (os : Os) (started : os.Started) (H : Type) (enc : TypeId × Value → H) :
    ReturnsInHanded {} Try.checked os 3 .any (Rows.rimStonesSpec.pre6 enc Try.prog Try.f3 Rows.rimStonesRow.domain false) (Rows.rimStonesSpec.post enc Try.prog Try.f3 false true false false) := by
  refine returnsInHanded_of_change (C := Try.checked) own started (by kernel_rfl) Try.func3
    (ChangeSpec.witness6 (enc := enc) (C := Try.checked) false ⟨#[], #[.agg #[.int .i64 0, .int .i64 0, .int .i64 0, .int .i64 0, .int .i64 0], .slice none 0 0, .int .i64 0], []⟩ 8 (by kernel_rfl) (by kernel_rfl) (by kernel_rfl) (by kernel_rfl)) ?_
  intro W base args ds gs before hval0 hW hcnd _
  have hval : ∀ (j : Nat) t v, Try.f3.params[j]? = some t → args[j]? = some v → Value.okWide Try.prog W .any base t v := hval0
  have hW' := hW
  obtain ⟨p, q, hA0, hV, rfl, hfz, hnd⟩ := hW
  have hA : DataW.TrodAll enc Try.prog W 0 (fun _ => true) true Try.f3.params.toList args.toList ds p := hA0
  have hAk := hA
  rw [Try.params3] at hA hval
  obtain ⟨v0, vs0, d0, ds0, a0, b0, e0, f0, rfl, h0, t0⟩ := trodAll_cons hA
  obtain ⟨v1, vs1, d1, ds1, a1, b1, e1, f1, rfl, h1, t1⟩ := trodAll_cons t0
  obtain ⟨v2, vs2, d2, ds2, a2, b2, e2, f2, rfl, h2, t2⟩ := trodAll_cons t1
  obtain ⟨en, fn, rfl⟩ := trodAll_nil t2
  subst en
  subst fn
  subst e2
  subst f2
  subst e1
  subst f1
  subst f0
  have ea : args = #[v0, v1, v2] := by rw [← Array.toList_inj]; exact e0
  subst ea
  clear e0
  obtain ⟨rfl, rfl⟩ := trodVars_none hV
  clear hA0 hval0 hA
  simp only [List.append_nil] at hW' hAk
  have o0 := hval 0 _ _ rfl rfl
  have o1 := hval 1 _ _ rfl rfl
  have o2 := hval 2 _ _ rfl rfl
  clear hval
  obtain ⟨D0, s0, r0⟩ := Eng.open_sh (n := 9) (Eng.shRim) (by kernel_rfl) o0 h0
  obtain ⟨D1, s1, r1⟩ := Eng.open_sh (n := 9) (.sl (.int .i64)) (by kernel_rfl) o1 h1
  obtain ⟨D2, s2, r2⟩ := Eng.open_sh (n := 9) (.int .i64) (by kernel_rfl) o2 h2
  obtain ⟨s, rfl⟩ := Eng.rim_in s0
  obtain ⟨ps, rfl⟩ := Eng.ints_in s1
  obtain ⟨k, rfl, -⟩ := s2
  refine Calls.mono (Eng.law_true (Eng.rimStones_c s ps k) rfl (Eng.reps_cons r0 (Eng.reps_cons r1 (Eng.reps_cons r2 Eng.reps_nil)))) fun e W' ⟨he, hb⟩ => ?_
  subst he
  exact ⟨_, rfl, post_later (pv := []) hW' (List.append_nil _).symm (fun _ _ _ => (trodAll_cons_mk (shut_bool Try.underlying4 _) trodAll_mk0))
    (fun sp hsp => Eng.args_later' kids full rowed hAk hb hsp) (fun _ _ => rfl) (ok_one (by kernel_rfl) rfl (okWide_bool_mk Try.underlying4 _)) hb⟩
theorem over : Rows.rimStonesRow.holds Try.pinned (OpenSpec.ofChange Rows.rimStonesSpec) :=
  OpenClaim.holds_of_wide 3 Try.f3 rfl rfl rfl rfl rfl rfl rfl ⟨rfl, rfl, rfl, rfl, rfl⟩ rfl rfl rfl rfl rfl (by kernel_rfl) Try.func3 (by kernel_rfl)
    (of_decide_eq_true (by kernel_rfl)) (by unfold Func.isWrapper; first | (rw [if_pos (by decide +kernel)]; kernel_rfl) | (rw [if_neg (by decide +kernel)]; exact ⟨rfl, rfl⟩))
    (fun os started H enc _ => lifted os started H enc)
theorem proved : Rows.RimStonesSaid := over
end Go.Proofs.Ytdkneonokbakjaa.rimStones
