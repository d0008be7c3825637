/-
  A part of the texts that the claim builds on: see the last one.
-/
import Derived.Test.YtdkneonokbakjaaFc5
import Derived.Deep.OwnRows
import Derived.Laws.CopyOwn
set_option linter.unusedSimpArgs false
set_option linter.unusedVariables false
noncomputable section
namespace Go.Proofs.Ytdkneonokbakjaa.Eng
open Go.RowKit
set_option maxRecDepth 100000
set_option maxHeartbeats 8000000
@[simp] theorem nk1 (n : Nat) : (n = n + 1) = False := by simp only [eq_iff_iff, iff_false]; omega
@[simp] theorem mk1 (n : Nat) : (n + 1 = n) = False := by simp only [eq_iff_iff, iff_false]; omega
@[simp] theorem nk2 (n : Nat) : (n = n + 1 + 1) = False := by simp only [eq_iff_iff, iff_false]; omega
@[simp] theorem mk2 (n : Nat) : (n + 1 + 1 = n) = False := by simp only [eq_iff_iff, iff_false]; omega
@[simp] theorem nk3 (n : Nat) : (n = n + 1 + 1 + 1) = False := by simp only [eq_iff_iff, iff_false]; omega
@[simp] theorem mk3 (n : Nat) : (n + 1 + 1 + 1 = n) = False := by simp only [eq_iff_iff, iff_false]; omega
@[simp] theorem nk4 (n : Nat) : (n = n + 1 + 1 + 1 + 1) = False := by simp only [eq_iff_iff, iff_false]; omega
@[simp] theorem mk4 (n : Nat) : (n + 1 + 1 + 1 + 1 = n) = False := by simp only [eq_iff_iff, iff_false]; omega
@[simp] theorem nk5 (n : Nat) : (n = n + 1 + 1 + 1 + 1 + 1) = False := by simp only [eq_iff_iff, iff_false]; omega
@[simp] theorem mk5 (n : Nat) : (n + 1 + 1 + 1 + 1 + 1 = n) = False := by simp only [eq_iff_iff, iff_false]; omega
@[simp] theorem nk6 (n : Nat) : (n = n + 1 + 1 + 1 + 1 + 1 + 1) = False := by simp only [eq_iff_iff, iff_false]; omega
@[simp] theorem mk6 (n : Nat) : (n + 1 + 1 + 1 + 1 + 1 + 1 = n) = False := by simp only [eq_iff_iff, iff_false]; omega
@[simp] theorem nk7 (n : Nat) : (n = n + 1 + 1 + 1 + 1 + 1 + 1 + 1) = False := by simp only [eq_iff_iff, iff_false]; omega
@[simp] theorem mk7 (n : Nat) : (n + 1 + 1 + 1 + 1 + 1 + 1 + 1 = n) = False := by simp only [eq_iff_iff, iff_false]; omega
@[simp] theorem nk8 (n : Nat) : (n = n + 1 + 1 + 1 + 1 + 1 + 1 + 1 + 1) = False := by simp only [eq_iff_iff, iff_false]; omega
@[simp] theorem mk8 (n : Nat) : (n + 1 + 1 + 1 + 1 + 1 + 1 + 1 + 1 = n) = False := by simp only [eq_iff_iff, iff_false]; omega
@[simp] theorem nk9 (n : Nat) : (n = n + 1 + 1 + 1 + 1 + 1 + 1 + 1 + 1 + 1) = False := by simp only [eq_iff_iff, iff_false]; omega
@[simp] theorem mk9 (n : Nat) : (n + 1 + 1 + 1 + 1 + 1 + 1 + 1 + 1 + 1 = n) = False := by simp only [eq_iff_iff, iff_false]; omega
@[simp] theorem nk10 (n : Nat) : (n = n + 1 + 1 + 1 + 1 + 1 + 1 + 1 + 1 + 1 + 1) = False := by simp only [eq_iff_iff, iff_false]; omega
@[simp] theorem mk10 (n : Nat) : (n + 1 + 1 + 1 + 1 + 1 + 1 + 1 + 1 + 1 + 1 = n) = False := by simp only [eq_iff_iff, iff_false]; omega
@[simp] theorem nk11 (n : Nat) : (n = n + 1 + 1 + 1 + 1 + 1 + 1 + 1 + 1 + 1 + 1 + 1) = False := by simp only [eq_iff_iff, iff_false]; omega
@[simp] theorem mk11 (n : Nat) : (n + 1 + 1 + 1 + 1 + 1 + 1 + 1 + 1 + 1 + 1 + 1 = n) = False := by simp only [eq_iff_iff, iff_false]; omega
@[simp] theorem nk12 (n : Nat) : (n = n + 1 + 1 + 1 + 1 + 1 + 1 + 1 + 1 + 1 + 1 + 1 + 1) = False := by simp only [eq_iff_iff, iff_false]; omega
@[simp] theorem mk12 (n : Nat) : (n + 1 + 1 + 1 + 1 + 1 + 1 + 1 + 1 + 1 + 1 + 1 + 1 = n) = False := by simp only [eq_iff_iff, iff_false]; omega
@[simp] theorem nk13 (n : Nat) : (n = n + 1 + 1 + 1 + 1 + 1 + 1 + 1 + 1 + 1 + 1 + 1 + 1 + 1) = False := by simp only [eq_iff_iff, iff_false]; omega
@[simp] theorem mk13 (n : Nat) : (n + 1 + 1 + 1 + 1 + 1 + 1 + 1 + 1 + 1 + 1 + 1 + 1 + 1 = n) = False := by simp only [eq_iff_iff, iff_false]; omega
@[simp] theorem nk14 (n : Nat) : (n = n + 1 + 1 + 1 + 1 + 1 + 1 + 1 + 1 + 1 + 1 + 1 + 1 + 1 + 1) = False := by simp only [eq_iff_iff, iff_false]; omega
@[simp] theorem mk14 (n : Nat) : (n + 1 + 1 + 1 + 1 + 1 + 1 + 1 + 1 + 1 + 1 + 1 + 1 + 1 + 1 = n) = False := by simp only [eq_iff_iff, iff_false]; omega
@[simp] theorem nk15 (n : Nat) : (n = n + 1 + 1 + 1 + 1 + 1 + 1 + 1 + 1 + 1 + 1 + 1 + 1 + 1 + 1 + 1) = False := by simp only [eq_iff_iff, iff_false]; omega
@[simp] theorem mk15 (n : Nat) : (n + 1 + 1 + 1 + 1 + 1 + 1 + 1 + 1 + 1 + 1 + 1 + 1 + 1 + 1 + 1 = n) = False := by simp only [eq_iff_iff, iff_false]; omega
@[simp] theorem nk16 (n : Nat) : (n = n + 1 + 1 + 1 + 1 + 1 + 1 + 1 + 1 + 1 + 1 + 1 + 1 + 1 + 1 + 1 + 1) = False := by simp only [eq_iff_iff, iff_false]; omega
@[simp] theorem mk16 (n : Nat) : (n + 1 + 1 + 1 + 1 + 1 + 1 + 1 + 1 + 1 + 1 + 1 + 1 + 1 + 1 + 1 + 1 = n) = False := by simp only [eq_iff_iff, iff_false]; omega
@[simp] theorem nk17 (n : Nat) : (n = n + 1 + 1 + 1 + 1 + 1 + 1 + 1 + 1 + 1 + 1 + 1 + 1 + 1 + 1 + 1 + 1 + 1) = False := by simp only [eq_iff_iff, iff_false]; omega
@[simp] theorem mk17 (n : Nat) : (n + 1 + 1 + 1 + 1 + 1 + 1 + 1 + 1 + 1 + 1 + 1 + 1 + 1 + 1 + 1 + 1 + 1 = n) = False := by simp only [eq_iff_iff, iff_false]; omega
@[simp] theorem nk18 (n : Nat) : (n = n + 1 + 1 + 1 + 1 + 1 + 1 + 1 + 1 + 1 + 1 + 1 + 1 + 1 + 1 + 1 + 1 + 1 + 1) = False := by simp only [eq_iff_iff, iff_false]; omega
@[simp] theorem mk18 (n : Nat) : (n + 1 + 1 + 1 + 1 + 1 + 1 + 1 + 1 + 1 + 1 + 1 + 1 + 1 + 1 + 1 + 1 + 1 + 1 = n) = False := by simp only [eq_iff_iff, iff_false]; omega
@[simp] theorem nk19 (n : Nat) : (n = n + 1 + 1 + 1 + 1 + 1 + 1 + 1 + 1 + 1 + 1 + 1 + 1 + 1 + 1 + 1 + 1 + 1 + 1 + 1) = False := by simp only [eq_iff_iff, iff_false]; omega
@[simp] theorem mk19 (n : Nat) : (n + 1 + 1 + 1 + 1 + 1 + 1 + 1 + 1 + 1 + 1 + 1 + 1 + 1 + 1 + 1 + 1 + 1 + 1 + 1 = n) = False := by simp only [eq_iff_iff, iff_false]; omega
@[simp] theorem nk20 (n : Nat) : (n = n + 1 + 1 + 1 + 1 + 1 + 1 + 1 + 1 + 1 + 1 + 1 + 1 + 1 + 1 + 1 + 1 + 1 + 1 + 1 + 1) = False := by simp only [eq_iff_iff, iff_false]; omega
@[simp] theorem mk20 (n : Nat) : (n + 1 + 1 + 1 + 1 + 1 + 1 + 1 + 1 + 1 + 1 + 1 + 1 + 1 + 1 + 1 + 1 + 1 + 1 + 1 + 1 = n) = False := by simp only [eq_iff_iff, iff_false]; omega
@[simp] theorem nk21 (n : Nat) : (n = n + 1 + 1 + 1 + 1 + 1 + 1 + 1 + 1 + 1 + 1 + 1 + 1 + 1 + 1 + 1 + 1 + 1 + 1 + 1 + 1 + 1) = False := by simp only [eq_iff_iff, iff_false]; omega
@[simp] theorem mk21 (n : Nat) : (n + 1 + 1 + 1 + 1 + 1 + 1 + 1 + 1 + 1 + 1 + 1 + 1 + 1 + 1 + 1 + 1 + 1 + 1 + 1 + 1 + 1 = n) = False := by simp only [eq_iff_iff, iff_false]; omega
@[simp] theorem nk22 (n : Nat) : (n = n + 1 + 1 + 1 + 1 + 1 + 1 + 1 + 1 + 1 + 1 + 1 + 1 + 1 + 1 + 1 + 1 + 1 + 1 + 1 + 1 + 1 + 1) = False := by simp only [eq_iff_iff, iff_false]; omega
@[simp] theorem mk22 (n : Nat) : (n + 1 + 1 + 1 + 1 + 1 + 1 + 1 + 1 + 1 + 1 + 1 + 1 + 1 + 1 + 1 + 1 + 1 + 1 + 1 + 1 + 1 + 1 = n) = False := by simp only [eq_iff_iff, iff_false]; omega
@[simp] theorem nk23 (n : Nat) : (n = n + 1 + 1 + 1 + 1 + 1 + 1 + 1 + 1 + 1 + 1 + 1 + 1 + 1 + 1 + 1 + 1 + 1 + 1 + 1 + 1 + 1 + 1 + 1) = False := by simp only [eq_iff_iff, iff_false]; omega
@[simp] theorem mk23 (n : Nat) : (n + 1 + 1 + 1 + 1 + 1 + 1 + 1 + 1 + 1 + 1 + 1 + 1 + 1 + 1 + 1 + 1 + 1 + 1 + 1 + 1 + 1 + 1 + 1 = n) = False := by simp only [eq_iff_iff, iff_false]; omega
@[simp] theorem nk24 (n : Nat) : (n = n + 1 + 1 + 1 + 1 + 1 + 1 + 1 + 1 + 1 + 1 + 1 + 1 + 1 + 1 + 1 + 1 + 1 + 1 + 1 + 1 + 1 + 1 + 1 + 1) = False := by simp only [eq_iff_iff, iff_false]; omega
@[simp] theorem mk24 (n : Nat) : (n + 1 + 1 + 1 + 1 + 1 + 1 + 1 + 1 + 1 + 1 + 1 + 1 + 1 + 1 + 1 + 1 + 1 + 1 + 1 + 1 + 1 + 1 + 1 + 1 = n) = False := by simp only [eq_iff_iff, iff_false]; omega
@[simp] theorem nk25 (n : Nat) : (n = n + 1 + 1 + 1 + 1 + 1 + 1 + 1 + 1 + 1 + 1 + 1 + 1 + 1 + 1 + 1 + 1 + 1 + 1 + 1 + 1 + 1 + 1 + 1 + 1 + 1) = False := by simp only [eq_iff_iff, iff_false]; omega
@[simp] theorem mk25 (n : Nat) : (n + 1 + 1 + 1 + 1 + 1 + 1 + 1 + 1 + 1 + 1 + 1 + 1 + 1 + 1 + 1 + 1 + 1 + 1 + 1 + 1 + 1 + 1 + 1 + 1 + 1 = n) = False := by simp only [eq_iff_iff, iff_false]; omega
@[simp] theorem nk26 (n : Nat) : (n = n + 1 + 1 + 1 + 1 + 1 + 1 + 1 + 1 + 1 + 1 + 1 + 1 + 1 + 1 + 1 + 1 + 1 + 1 + 1 + 1 + 1 + 1 + 1 + 1 + 1 + 1) = False := by simp only [eq_iff_iff, iff_false]; omega
@[simp] theorem mk26 (n : Nat) : (n + 1 + 1 + 1 + 1 + 1 + 1 + 1 + 1 + 1 + 1 + 1 + 1 + 1 + 1 + 1 + 1 + 1 + 1 + 1 + 1 + 1 + 1 + 1 + 1 + 1 + 1 = n) = False := by simp only [eq_iff_iff, iff_false]; omega
@[simp] theorem nk27 (n : Nat) : (n = n + 1 + 1 + 1 + 1 + 1 + 1 + 1 + 1 + 1 + 1 + 1 + 1 + 1 + 1 + 1 + 1 + 1 + 1 + 1 + 1 + 1 + 1 + 1 + 1 + 1 + 1 + 1) = False := by simp only [eq_iff_iff, iff_false]; omega
@[simp] theorem mk27 (n : Nat) : (n + 1 + 1 + 1 + 1 + 1 + 1 + 1 + 1 + 1 + 1 + 1 + 1 + 1 + 1 + 1 + 1 + 1 + 1 + 1 + 1 + 1 + 1 + 1 + 1 + 1 + 1 + 1 = n) = False := by simp only [eq_iff_iff, iff_false]; omega
@[simp] theorem nk28 (n : Nat) : (n = n + 1 + 1 + 1 + 1 + 1 + 1 + 1 + 1 + 1 + 1 + 1 + 1 + 1 + 1 + 1 + 1 + 1 + 1 + 1 + 1 + 1 + 1 + 1 + 1 + 1 + 1 + 1 + 1) = False := by simp only [eq_iff_iff, iff_false]; omega
@[simp] theorem mk28 (n : Nat) : (n + 1 + 1 + 1 + 1 + 1 + 1 + 1 + 1 + 1 + 1 + 1 + 1 + 1 + 1 + 1 + 1 + 1 + 1 + 1 + 1 + 1 + 1 + 1 + 1 + 1 + 1 + 1 + 1 = n) = False := by simp only [eq_iff_iff, iff_false]; omega
@[simp] theorem nk29 (n : Nat) : (n = n + 1 + 1 + 1 + 1 + 1 + 1 + 1 + 1 + 1 + 1 + 1 + 1 + 1 + 1 + 1 + 1 + 1 + 1 + 1 + 1 + 1 + 1 + 1 + 1 + 1 + 1 + 1 + 1 + 1) = False := by simp only [eq_iff_iff, iff_false]; omega
@[simp] theorem mk29 (n : Nat) : (n + 1 + 1 + 1 + 1 + 1 + 1 + 1 + 1 + 1 + 1 + 1 + 1 + 1 + 1 + 1 + 1 + 1 + 1 + 1 + 1 + 1 + 1 + 1 + 1 + 1 + 1 + 1 + 1 + 1 = n) = False := by simp only [eq_iff_iff, iff_false]; omega
@[simp] theorem nk30 (n : Nat) : (n = n + 1 + 1 + 1 + 1 + 1 + 1 + 1 + 1 + 1 + 1 + 1 + 1 + 1 + 1 + 1 + 1 + 1 + 1 + 1 + 1 + 1 + 1 + 1 + 1 + 1 + 1 + 1 + 1 + 1 + 1) = False := by simp only [eq_iff_iff, iff_false]; omega
@[simp] theorem mk30 (n : Nat) : (n + 1 + 1 + 1 + 1 + 1 + 1 + 1 + 1 + 1 + 1 + 1 + 1 + 1 + 1 + 1 + 1 + 1 + 1 + 1 + 1 + 1 + 1 + 1 + 1 + 1 + 1 + 1 + 1 + 1 + 1 = n) = False := by simp only [eq_iff_iff, iff_false]; omega
theorem setMem_lt {m : Mem} {a j : Nat} {b : Option Blk} (h : j < a) : setMem m a b j = m j := if_neg (by omega)
theorem putN_lt {m q : Mem} {a b j : Nat} (h : j < a) : putN m a b q j = m j := if_neg (by omega)
theorem mixedR : Try.prog.follows .mixedOrders = true := by kernel_rfl
abbrev sto5 (s : RS) : List SV := [.d (iD s.long), .d (iD s.short), .d (iD s.off), .d (iD s.lo), .d (iD s.hi)]
def spS (A : Rgs) : List SV := (List.range 12).flatMap fun j => [.d (iD (A j).1), .d (iD (A j).2)]
def whS (s : RS) (ps : List Int) (A : Rgs) : List SV := sto5 s ++ .d (intL ps) :: spS A
@[simp] theorem spS_len (A : Rgs) : (spS A).length = 24 := by simp [spS, List.range_succ]
@[simp] theorem whS_len (s : RS) (ps : List Int) (A : Rgs) : (whS s ps A).length = 30 := by simp [whS]
@[simp] theorem wh0 (s : RS) (ps : List Int) (A : Rgs) : List.take 1 (whS s ps A) = [.d (iD s.long)] := rfl
@[simp] theorem wh1 (s : RS) (ps : List Int) (A : Rgs) : List.take 1 (List.drop 1 (whS s ps A)) = [.d (iD s.short)] := rfl
@[simp] theorem wh1t (s : RS) (ps : List Int) (A : Rgs) : List.take 1 (whS s ps A).tail = [.d (iD s.short)] := rfl
@[simp] theorem wh2 (s : RS) (ps : List Int) (A : Rgs) : List.take 1 (List.drop 2 (whS s ps A)) = [.d (iD s.off)] := rfl
@[simp] theorem wh3 (s : RS) (ps : List Int) (A : Rgs) : List.take 1 (List.drop 3 (whS s ps A)) = [.d (iD s.lo)] := rfl
@[simp] theorem wh4 (s : RS) (ps : List Int) (A : Rgs) : List.take 1 (List.drop 4 (whS s ps A)) = [.d (iD s.hi)] := rfl
@[simp] theorem wh5 (s : RS) (ps : List Int) (A : Rgs) : List.take 1 (List.drop 5 (whS s ps A)) = [.d (intL ps)] := rfl
@[simp] theorem whR (s : RS) (ps : List Int) (A : Rgs) : List.take 5 (whS s ps A) = sto5 s := rfl
@[simp] theorem whA (s : RS) (ps : List Int) (A : Rgs) : List.take 24 (List.drop 6 (whS s ps A)) = spS A := by simp [whS]; exact List.take_of_length_le (by simp)
theorem sp_at (A : Rgs) {p : Nat} (hp : p < 12) : List.take 2 (List.drop (p * 2) (spS A)) = [.d (iD (A p).1), .d (iD (A p).2)] := by
  have h : ∀ p : Fin 12, List.take 2 (List.drop (p.1 * 2) (spS A)) = [.d (iD (A p.1).1), .d (iD (A p.1).2)] := by
    intro p
    match p with
    | ⟨0, _⟩ => rfl
    | ⟨1, _⟩ => rfl
    | ⟨2, _⟩ => rfl
    | ⟨3, _⟩ => rfl
    | ⟨4, _⟩ => rfl
    | ⟨5, _⟩ => rfl
    | ⟨6, _⟩ => rfl
    | ⟨7, _⟩ => rfl
    | ⟨8, _⟩ => rfl
    | ⟨9, _⟩ => rfl
    | ⟨10, _⟩ => rfl
    | ⟨11, _⟩ => rfl
  exact h ⟨p, hp⟩
theorem wh_drop (s : RS) (ps : List Int) (A : Rgs) (k : Nat) : List.drop (6 + k) (whS s ps A) = List.drop k (spS A) := by
  rw [← List.drop_drop]
  rfl
theorem wh_at (s : RS) (ps : List Int) (A : Rgs) {p : Nat} (hp : p < 12) : List.take 2 (List.drop (6 + p * 2) (whS s ps A)) = [.d (iD (A p).1), .d (iD (A p).2)] := by rw [wh_drop, sp_at A hp]
theorem wh_lo (s : RS) (ps : List Int) (A : Rgs) {p : Nat} (hp : p < 12) : (whS s ps A)[6 + p * 2]? = some (.d (iD (A p).1)) := by
  have := wh_at s ps A hp
  have h2 : (List.take 2 (List.drop (6 + p * 2) (whS s ps A)))[0]? = some (.d (iD (A p).1)) := by rw [this]; rfl
  rw [List.getElem?_take, if_pos (by omega), List.getElem?_drop] at h2
  exact h2
abbrev WhAt (s : RS) (ps : List Int) (A : Rgs) (w : Nat) (m : Mem) : Prop := m w = some (.box 83 (whS s ps A) false)
theorem isPulley_w {s : RS} {ps : List Int} {A : Rgs} {w : Nat} {m : Mem} (hm : WhAt s ps A w m) (p : Int) (n : Nat) :
    CWp Try.prog 50 [.ptr w 0 0, .d (iD p)] n m fun y n' m' => n ≤ n' ∧ n' ≤ n + 20 ∧ y = .d (bD (decide (0 ≤ p ∧ p < ps.length))) ∧ m' = m := by
  by_cases g1 : 0 ≤ p
  · by_cases g2 : p < ps.length
    · rw [decide_eq_true ⟨g1, g2⟩]
      refine cwpK tabOk Try.func50 rfl rfl (show 2 ≤ _ by decide) rfl fun _ => ?_; simp only [Try.ntmps50]
      repeat (first | (with_reducible first | refine AWi.seqK fun _ => ?_ | refine AWi.blockK fun _ => ?_ | refine KI.go ?_) | ((first | refine AWi.region tabOk ?_ | refine AWi.condK fun _ _ => ?_ | refine AWi.draws tabOk rfl (by kernel_rfl) (by kernel_rfl) ?_); simp [-getElem?_pos, z0, z1, z2, hm, g1, g2]) | ((first | refine AWi.ret ?_ | refine AWi.skip ?_ | refine AWi.exit ?_); try simp only [thenP]) | (with_reducible refine BB.go ?_; simp only [blockP, thenP, reduceIte]) | (with_reducible refine And.intro (okLog_c (by simp [footOf, guardSlot, slotsOf, idsRead, looks, idsOf, idsOf1, idsWritten, colF]; kernel_rfl)) ?_))
      exact RI.ret rfl ⟨by omega, by omega, rfl, rfl⟩
    · rw [decide_eq_false (fun h => g2 h.2)]
      refine cwpK tabOk Try.func50 rfl rfl (show 2 ≤ _ by decide) rfl fun _ => ?_; simp only [Try.ntmps50]
      repeat (first | (with_reducible first | refine AWi.seqK fun _ => ?_ | refine AWi.blockK fun _ => ?_ | refine KI.go ?_) | ((first | refine AWi.region tabOk ?_ | refine AWi.condK fun _ _ => ?_ | refine AWi.draws tabOk rfl (by kernel_rfl) (by kernel_rfl) ?_); simp [-getElem?_pos, z0, z1, z2, hm, g1, g2]) | ((first | refine AWi.ret ?_ | refine AWi.skip ?_ | refine AWi.exit ?_); try simp only [thenP]) | (with_reducible refine BB.go ?_; simp only [blockP, thenP, reduceIte]) | (with_reducible refine And.intro (okLog_c (by simp [footOf, guardSlot, slotsOf, idsRead, looks, idsOf, idsOf1, idsWritten, colF]; kernel_rfl)) ?_))
      exact RI.ret rfl ⟨by omega, by omega, rfl, rfl⟩
  · rw [decide_eq_false (fun h => g1 h.1)]
    refine cwpK tabOk Try.func50 rfl rfl (show 2 ≤ _ by decide) rfl fun _ => ?_; simp only [Try.ntmps50]
    repeat (first | (with_reducible first | refine AWi.seqK fun _ => ?_ | refine AWi.blockK fun _ => ?_ | refine KI.go ?_) | ((first | refine AWi.region tabOk ?_ | refine AWi.condK fun _ _ => ?_ | refine AWi.draws tabOk rfl (by kernel_rfl) (by kernel_rfl) ?_); simp [-getElem?_pos, z0, z1, z2, hm, g1]) | ((first | refine AWi.ret ?_ | refine AWi.skip ?_ | refine AWi.exit ?_); try simp only [thenP]) | (with_reducible refine BB.go ?_; simp only [blockP, thenP, reduceIte]) | (with_reducible refine And.intro (okLog_c (by simp [footOf, guardSlot, slotsOf, idsRead, looks, idsOf, idsOf1, idsWritten, colF]; kernel_rfl)) ?_))
    exact RI.ret rfl ⟨by omega, by omega, rfl, rfl⟩
theorem bears_w {s : RS} {ps : List Int} {A : Rgs} {w : Nat} {m : Mem} (hm : WhAt s ps A w m) {p : Nat} (hp : p < 12) (x : Int) (n : Nat) (hw : w < n) :
    CWp Try.prog 75 [.ptr w 0 0, .d (iD p), .d (iD x)] n m fun y n' m' => n ≤ n' ∧ n' ≤ n + 30 ∧ y = .d (bD (bearB A p x)) ∧ ∀ j, j < n → m' j = m j := by
  have ha := wh_at s ps A hp
  have hl := whS_len s ps A
  have g3 : (p : Int) < 12 := by omega
  have g2 : 6 + p * 2 + 2 ≤ 30 := by omega
  obtain ⟨b, hb⟩ : ∃ b, b = bearB A p x := ⟨_, rfl⟩
  rw [← hb]
  unfold bearB at hb
  generalize A p = a at *
  obtain ⟨lo, hi⟩ := a
  simp only at hb ha
  by_cases g1 : lo ≤ x
  · by_cases g4 : x ≤ hi
    · rw [decide_eq_true ⟨g1, g4⟩] at hb
      subst hb
      refine cwpK tabOk Try.func75 rfl rfl (show 3 ≤ _ by decide) rfl fun _ => ?_; simp only [Try.ntmps75]
      repeat (first | (with_reducible first | refine AWi.seqK fun _ => ?_ | refine AWi.blockK fun _ => ?_ | refine KI.go ?_) | ((first | refine AWi.region tabOk ?_ | refine AWi.condK fun _ _ => ?_ | refine AWi.draws tabOk rfl (by kernel_rfl) (by kernel_rfl) ?_); simp [-getElem?_pos, z0, z1, z2, hm, ha, hl, g1, g2, g3, g4]) | ((first | refine AWi.ret ?_ | refine AWi.skip ?_ | refine AWi.exit ?_); try simp only [thenP]) | (with_reducible refine BB.go ?_; simp only [blockP, thenP, reduceIte]) | (with_reducible refine And.intro (okLog_c (by simp [footOf, guardSlot, slotsOf, idsRead, looks, idsOf, idsOf1, idsWritten, colF]; kernel_rfl)) ?_))
      exact RI.ret rfl ⟨by omega, by omega, rfl, fun j hj => by (try dsimp only); repeat (first | rw [setMem_lt (by omega)] | rw [putN_lt (by omega)])⟩
    · rw [decide_eq_false (fun h => g4 h.2)] at hb
      subst hb
      refine cwpK tabOk Try.func75 rfl rfl (show 3 ≤ _ by decide) rfl fun _ => ?_; simp only [Try.ntmps75]
      repeat (first | (with_reducible first | refine AWi.seqK fun _ => ?_ | refine AWi.blockK fun _ => ?_ | refine KI.go ?_) | ((first | refine AWi.region tabOk ?_ | refine AWi.condK fun _ _ => ?_ | refine AWi.draws tabOk rfl (by kernel_rfl) (by kernel_rfl) ?_); simp [-getElem?_pos, z0, z1, z2, hm, ha, hl, g1, g2, g3, g4]) | ((first | refine AWi.ret ?_ | refine AWi.skip ?_ | refine AWi.exit ?_); try simp only [thenP]) | (with_reducible refine BB.go ?_; simp only [blockP, thenP, reduceIte]) | (with_reducible refine And.intro (okLog_c (by simp [footOf, guardSlot, slotsOf, idsRead, looks, idsOf, idsOf1, idsWritten, colF]; kernel_rfl)) ?_))
      exact RI.ret rfl ⟨by omega, by omega, rfl, fun j hj => by (try dsimp only); repeat (first | rw [setMem_lt (by omega)] | rw [putN_lt (by omega)])⟩
  · rw [decide_eq_false (fun h => g1 h.1)] at hb
    subst hb
    refine cwpK tabOk Try.func75 rfl rfl (show 3 ≤ _ by decide) rfl fun _ => ?_; simp only [Try.ntmps75]
    repeat (first | (with_reducible first | refine AWi.seqK fun _ => ?_ | refine AWi.blockK fun _ => ?_ | refine KI.go ?_) | ((first | refine AWi.region tabOk ?_ | refine AWi.condK fun _ _ => ?_ | refine AWi.draws tabOk rfl (by kernel_rfl) (by kernel_rfl) ?_); simp [-getElem?_pos, z0, z1, z2, hm, ha, hl, g1, g2, g3]) | ((first | refine AWi.ret ?_ | refine AWi.skip ?_ | refine AWi.exit ?_); try simp only [thenP]) | (with_reducible refine BB.go ?_; simp only [blockP, thenP, reduceIte]) | (with_reducible refine And.intro (okLog_c (by simp [footOf, guardSlot, slotsOf, idsRead, looks, idsOf, idsOf1, idsWritten, colF]; kernel_rfl)) ?_))
    exact RI.ret rfl ⟨by omega, by omega, rfl, fun j hj => by (try dsimp only); repeat (first | rw [setMem_lt (by omega)] | rw [putN_lt (by omega)])⟩
theorem span_w {s : RS} {ps : List Int} {A : Rgs} {w : Nat} {m : Mem} (hm : WhAt s ps A w m) (hg : GoodR s) {p : Nat} {t : Int} (ht : ps[p]? = some t) (h1 : 1 ≤ t ∧ t ≤ 10000) (n : Nat) (hw : w < n) :
    CWp Try.prog 87 [.ptr w 0 0, .d (iD p)] n m fun y n' m' => toD3 y = some (rngD (spR s t)) ∧ ∀ j, j < n → m' j = m j := by
  have := hg.s1; have := hg.s2; have := hg.s3; have := hg.o1; have := hg.o2; have := hg.l1; have := hg.l2; have := hg.l3
  have hl := whS_len s ps A
  have hp : p < ps.length := (List.getElem?_eq_some_iff.1 ht).1
  have hpi : (p : Int) < ps.length := by omega
  obtain ⟨a, ha⟩ : ∃ a, a = (s.lo + t - 1) / t := ⟨_, rfl⟩
  obtain ⟨q, hq⟩ : ∃ q, q = s.hi / t := ⟨_, rfl⟩
  have q1 : (s.lo + t - 1).tdiv t = a := by rw [Int.tdiv_eq_ediv_of_nonneg (by omega), ha]
  have q2 : s.hi.tdiv t = q := by rw [Int.tdiv_eq_ediv_of_nonneg (by omega), hq]
  have hp1 : 0 ≤ a := by rw [ha]; exact Int.ediv_nonneg (by omega) (by omega)
  have hp2 : a ≤ 1000010000 := by rw [ha]; exact Int.le_trans (Int.ediv_le_self _ (by omega)) (by omega)
  have hq1 : 0 ≤ q := by rw [hq]; exact Int.ediv_nonneg (by omega) (by omega)
  have hq2 : q ≤ 1000000000 := by rw [hq]; exact Int.le_trans (Int.ediv_le_self _ (by omega)) (by omega)
  obtain ⟨x, hx⟩ : ∃ x, x = max s.short (a + s.off) := ⟨_, rfl⟩
  obtain ⟨y, hy⟩ : ∃ y, y = min s.long (q - s.off) := ⟨_, rfl⟩
  have hres : spR s t = if y < x then (0, 0) else (x, y) := by
    have : betR s t = (x, y) := by rw [betR, ← ha, ← hq, ← hx, ← hy]
    rw [spR, this]
  have m1 : (if s.short < a + s.off then a + s.off else s.short) = x := by rw [hx]; split <;> omega
  have m2 : (if q - s.off < s.long then q - s.off else s.long) = y := by rw [hy]; split <;> omega
  have w1 : IntKind.i64.wrap (s.lo + t) = s.lo + t := wrap64_in (by omega)
  have w2 : IntKind.i64.wrap (s.lo + t - 1) = s.lo + t - 1 := wrap64_in (by omega)
  have w3 : IntKind.i64.wrap a = a := wrap64_in (by omega)
  have w4 : IntKind.i64.wrap q = q := wrap64_in (by omega)
  have w5 : IntKind.i64.wrap (a + s.off) = a + s.off := wrap64_in (by omega)
  have w6 : IntKind.i64.wrap (q - s.off) = q - s.off := wrap64_in (by omega)
  have ht0 : ¬ t = 0 := by omega
  have hwn : ¬ w = n := by omega
  rw [hres]
  by_cases g : y < x
  · rw [if_pos g]
    refine cwpK tabOk Try.func87 rfl rfl (show 2 ≤ _ by decide) rfl fun _ => ?_; simp only [Try.ntmps87]
    repeat (first | (with_reducible first | refine AWi.seqK fun _ => ?_ | refine AWi.blockK fun _ => ?_ | refine KI.go ?_) | ((first | refine AWi.region tabOk ?_ | refine AWi.condK fun _ _ => ?_); simp [-getElem?_pos, z0, z1, z2, hm, hl, hp, hpi, ht, hwn]) | ((first | refine AWi.ret ?_ | refine AWi.skip ?_ | refine AWi.exit ?_); try simp only [thenP]) | (with_reducible refine BB.go ?_; simp only [blockP, thenP, reduceIte]))
    refine AWi.drawsT tabOk mixedR 45 (by kernel_rfl) (by kernel_rfl) ?_
    simp only [List.take_succ_cons, List.take_zero, List.drop_succ_cons, List.drop_zero]
    repeat (with_reducible refine ExecV.auto tabOk ?_; simp [-getElem?_pos, z0, z1, z2, kindV, isPure, hm, hl, hp, hpi, ht, hwn, w1, w2, w3, w4, w5, w6, q1, q2, m1, m2, ht0, hw]; try (refine And.intro (OkV_old (by simp; try omega) (by omega) (by simp [AllAcc])) ?_))
    unfold ExecV
    simp [-getElem?_pos, z0, z1, z2, g]
    repeat (first | (with_reducible first | refine AWi.seqK fun _ => ?_ | refine AWi.blockK fun _ => ?_ | refine KI.go ?_) | ((first | refine AWi.region tabOk ?_ | refine AWi.condK fun _ _ => ?_); simp [-getElem?_pos, z0, z1, z2, hwn, g]) | ((first | refine AWi.ret ?_ | refine AWi.skip ?_ | refine AWi.exit ?_); try simp only [thenP]) | (with_reducible refine BB.go ?_; simp only [blockP, thenP, reduceIte]))
    refine RI.ret (xs := [.agg [.d (iD 0), .d (iD 0)]]) (by simp [Try.results87, resSlots, resSlot, g]) ?_
    exact ⟨rfl, fun j hj => by (try dsimp only); repeat (first | rw [setMem_lt (by omega)] | rw [putN_lt (by omega)])⟩
  · rw [if_neg g]
    refine cwpK tabOk Try.func87 rfl rfl (show 2 ≤ _ by decide) rfl fun _ => ?_; simp only [Try.ntmps87]
    repeat (first | (with_reducible first | refine AWi.seqK fun _ => ?_ | refine AWi.blockK fun _ => ?_ | refine KI.go ?_) | ((first | refine AWi.region tabOk ?_ | refine AWi.condK fun _ _ => ?_); simp [-getElem?_pos, z0, z1, z2, hm, hl, hp, hpi, ht, hwn]) | ((first | refine AWi.ret ?_ | refine AWi.skip ?_ | refine AWi.exit ?_); try simp only [thenP]) | (with_reducible refine BB.go ?_; simp only [blockP, thenP, reduceIte]))
    refine AWi.drawsT tabOk mixedR 45 (by kernel_rfl) (by kernel_rfl) ?_
    simp only [List.take_succ_cons, List.take_zero, List.drop_succ_cons, List.drop_zero]
    repeat (with_reducible refine ExecV.auto tabOk ?_; simp [-getElem?_pos, z0, z1, z2, kindV, isPure, hm, hl, hp, hpi, ht, hwn, w1, w2, w3, w4, w5, w6, q1, q2, m1, m2, ht0, hw]; try (refine And.intro (OkV_old (by simp; try omega) (by omega) (by simp [AllAcc])) ?_))
    unfold ExecV
    simp [-getElem?_pos, z0, z1, z2, g]
    repeat (first | (with_reducible first | refine AWi.seqK fun _ => ?_ | refine AWi.blockK fun _ => ?_ | refine KI.go ?_) | ((first | refine AWi.region tabOk ?_ | refine AWi.condK fun _ _ => ?_); simp [-getElem?_pos, z0, z1, z2, hwn, g]) | ((first | refine AWi.ret ?_ | refine AWi.skip ?_ | refine AWi.exit ?_); try simp only [thenP]) | (with_reducible refine BB.go ?_; simp only [blockP, thenP, reduceIte]))
    refine RI.ret (xs := [.agg [.d (iD x), .d (iD y)]]) (by simp [Try.results87, resSlots, resSlot, g]) ?_
    exact ⟨rfl, fun j hj => by (try dsimp only); repeat (first | rw [setMem_lt (by omega)] | rw [putN_lt (by omega)])⟩
end Go.Proofs.Ytdkneonokbakjaa.Eng

noncomputable section
namespace Go.Proofs.Ytdkneonokbakjaa.Eng
open Go.RowKit
variable {P : Program} {T : Tab} {r : Option Nat} {ns : Nat}
def ExecS (P : Program) (r : Option Nat) (ns : Nat) (ops : Array Oper) : Nat → List Oper → St → (Nat → St → Prop) → Prop
  | n, [], s, Q => Q n s
  | n, o :: l, s, Q => guardS ops ns s o = some true ∧ ∃ G, StepI P r ns n s o G ∧ ∀ n' s', G n' s' → ExecS P r ns ops n' l s' Q
theorem execS_list {W0 : Fix} {R0 : Nat → Prop} {B : Nat} (hi : InAct r W0 R0 B) {ops : Array Oper} {Q : Exit → Act → World → Prop} : ∀ (l : List Oper) (n : Nat) {s : St} {E : Env} {a : Act} {w : World} {Q' : Nat → St → Prop}, ExecS P r ns ops n l s Q' →
    Sim W0 R0 ns (· < n) s E a w → (∀ n' s' E' a' w', Sim W0 R0 ns (· < n') s' E' a' w' → Q' n' s' → Q .normal a' w') → wpListIn (fen (rOf W0 r)) 0 P ops Q l a w
  | [], n, s, E, a, w, Q', h, hs, hQ => hQ n s E a w hs h
  | o :: l, n, s, E, a, w, Q', ⟨hg, G, h1, h2⟩, hs, hQ => by
    refine wpListIn_step fun K hK => ?_
    rw [guard_ok hs hg, if_pos rfl]
    exact h1 W0 R0 B E a w hi hs (guardS_dst hg) K Q fun n' s' E' a' w' hG hs' => hK _ _ (execS_list hi l n' (h2 n' s' hG) hs' hQ)
theorem AWi.regionS {id n : Nat} {s : St} {Q : Post} {l : List Oper} (h : ExecS P r ns l.toArray n l s (fun n' s' => Q .normal n' s')) : AWi P r ns (.region id l.toArray false) n s Q :=
  fun W0 _ _ _ _ _ hi hs => wpIn_region_lit (execS_list hi l n h hs fun n' s' E' _ _ h1 h2 => ⟨n', s', E', W0, Ext.refl _, hi, h1, h2⟩)
section
variable {ops : Array Oper} {o : Oper} {l : List Oper} {n : Nat} {s : St} {Q : Nat → St → Prop}
theorem ExecS.plain (hT : TabOk P T) {out : Out} (hg : guardS ops ns s o = some true) (hw : waits o.op = false) (hx : aop T s.mem n (opd ns s) o.op = some out) (h : ExecS P r ns ops (n + 1) l (putS s n o.dst out) Q) : ExecS P r ns ops n (o :: l) s Q :=
  ⟨hg, fun n' s' => n' = n + 1 ∧ s' = putS s n o.dst out, fun W0 R0 B E a w hi hs hd K Q' hK =>
    oper_in (noDefer_spec (aop_noDefer hx) List.mem_cons_self) (step_wp hT hs (nid := n) (by omega) (N := n) (fun _ h => h) hd ((step_plain hw).2 hx) fun E' a' w' hs' => hK _ _ E' a' w' ⟨rfl, rfl⟩ (hs'.weak fun i hi => by omega)), fun n' s' ⟨e1, e2⟩ => by rw [e1, e2]; exact h⟩
theorem ExecS.slice (hT : TabOk P T) {t e : TypeId} {x : Operand} {i ie : TI} {N id j : Nat} (ho : o.op = .slice t x none none none) (hg : guardS ops ns s o = some true) (hi : T t = some i) (hk : i.kind = .array N e) (hie : T e = some ie) (hN : 0 < N) (hx : opd ns s x = some (.ptr id 0 j))
    (h : ExecS P r ns ops n l ⟨setSlot s.slots o.dst (.sl id j N (some N)), s.mem⟩ Q) : ExecS P r ns ops n (o :: l) s Q :=
  ⟨hg, fun n' s' => n' = n ∧ s' = ⟨setSlot s.slots o.dst (.sl id j N (some N)), s.mem⟩, fun W0 R0 B E a w hin hs hd K Q' hK => by
    have hr := hs.opd hx
    have hc : sliceC T i (.ptr id 0 j) none none none = some (.sl id j N (some N)) := by
      have hN' : ¬ (N : Int) = 0 := by omega
      simp [sliceC, hk, hie, hN']
    obtain ⟨z, h1, h2⟩ := sliceC_run (w := w) hT hi Bd.none Bd.none Bd.none hc hr
    refine oper_in (fun c e => by rw [ho] at e; cases e) ?_
    unfold Oper.wp
    have he : (execOp a.eval o).run P w = .ok (.value z) w := by
      simp only [execOp, ho, Sem.run_bind]
      simp [h1]
    rw [he]
    exact hK n _ E _ w ⟨rfl, rfl⟩ (hs.put hd h2), fun n' s' ⟨e1, e2⟩ => by rw [e1, e2]; exact h⟩
theorem ExecS.clear (hT : TabOk P T) {t e ty : TypeId} {x : Operand} {c : Call} {i ie : TI} {N id j cp : Nat} {cells : List SV} (ho : o.op = .call c) (hc1 : c.callee = .builtin .clear) (hc2 : c.args.toList = [x]) (hc3 : c.argTypes.toList = [t]) (hg : guardS ops ns s o = some true) (hi : T t = some i) (hk : i.kind = .slice e) (hie : T e = some ie) (hN : 0 < N) (hx : opd ns s x = some (.sl id j N (some cp))) (hm : s.mem id = some (.box ty cells false)) (hle : j + N * ie.size ≤ cells.length)
    (h : ExecS P r ns ops n l ⟨setSlot s.slots o.dst (.tup []), setMem s.mem id (some (.box ty (splice cells j (zerosC ie (N * ie.size))) false))⟩ Q) : ExecS P r ns ops n (o :: l) s Q :=
  ⟨hg, fun n' s' => n' = n ∧ s' = ⟨setSlot s.slots o.dst (.tup []), setMem s.mem id (some (.box ty (splice cells j (zerosC ie (N * ie.size))) false))⟩, fun W0 R0 B E a w hin hs hd K Q' hK => by
    rw [call_eq hc1 hc2 hc3] at ho
    have hr := hs.opd hx
    have hu := slice_und (hT t i hi) hk
    obtain ⟨inf, z0, i1, i4, i2, i3, hzs, hz⟩ := zeros_reps (E := E) (w := w) hT hie
    obtain ⟨u, hu'⟩ : ∃ u, a.eval x = u := ⟨_, rfl⟩
    rw [hu'] at hr
    cases hr with
    | sl _ _ _ _ q0 cd hdm hcd hq hnd =>
    obtain rfl := (hq (.inl hN)).symm
    have hro : ¬ E.ro (E.home id).blk := fun k => by have := (hs.frz id _ hm).2 k; cases this
    cases hs.mem id _ hm with
    | box _ _ _ cur h1 h2 h3 h4 =>
    have hR := hz (N * ie.size)
    have hlen : (madeCells z0.cells (N * ie.size)).toList.length = N * ie.size := by simp [size_madeCells]
    have hst := run_storeCells_at P (E.home id).blk j ty (madeCells z0.cells (N * ie.size)).toList 0 cur w h1 (by rw [hlen]; omega) hR.ones
    simp only [Nat.add_zero] at hst
    have hzv : (zeroValue e).run P w = .ok z0 w := by simp [zeroValue, typeInfo, i1, i4]
    have hzc : Builtin.zeroCells z0.cells N = madeCells z0.cells (N * ie.size) := by unfold Builtin.zeroCells madeCells; rw [hzs]
    obtain ⟨q, rfl⟩ : ∃ q, N = q + 1 := ⟨N - 1, by omega⟩
    have hrun : (Builtin.clear_ #[t] o.type #[.slice (some ⟨(E.home id).blk, j, none⟩) (q + 1) cd]).run P w = .ok (.tuple #[]) (w.setRow (E.home id).blk (cur.toList.take j ++ (madeCells z0.cells ((q + 1) * ie.size)).toList ++ cur.toList.drop (j + (madeCells z0.cells ((q + 1) * ie.size)).toList.length)).toArray) := by
      simp [Builtin.clear_, run_underlying hu, hzv, hzc]
      simp at hst
      rw [hst]
      simp
    have he : (execOp a.eval o).run P w = .ok (.value (.tuple #[])) (w.setRow (E.home id).blk (cur.toList.take j ++ (madeCells z0.cells ((q + 1) * ie.size)).toList ++ cur.toList.drop (j + (madeCells z0.cells ((q + 1) * ie.size)).toList.length)).toArray) := by
      simp only [execOp, ho, resolve, invoke, builtin, Sem.run_bind, Sem.run_pure, Result.andThen_ok, List.map_toArray, List.map_cons, List.map_nil, hu', hrun]
    have hw : ∀ b, E.ro b → (w.setRow (E.home id).blk (cur.toList.take j ++ (madeCells z0.cells ((q + 1) * ie.size)).toList ++ cur.toList.drop (j + (madeCells z0.cells ((q + 1) * ie.size)).toList.length)).toArray).heap[b]? = w.heap[b]? := fun b hb => setRow_other _ _ _ _ (fun e => hro (e ▸ hb))
    have hC : Reps E w cells cur.toList := ⟨by simpa using h2, h3, fun i c v hc hv => h4 i c v hc (by simpa using hv)⟩
    have hS := (hC.keep (Env.le.refl E) hw).splice (hR.keep (Env.le.refl E) hw) j (by rw [zerosC_len]; exact hle) (cur.toList.take j ++ (madeCells z0.cells ((q + 1) * ie.size)).toList ++ cur.toList.drop (j + (madeCells z0.cells ((q + 1) * ie.size)).toList.length)).toArray (by simp [size_madeCells]; omega) fun k => by
      rw [splice_at cur _ j (by rw [hlen]; omega)]
      by_cases q1 : j ≤ k ∧ k < j + (madeCells z0.cells ((q + 1) * ie.size)).toList.length
      · rw [if_pos q1, if_pos ⟨q1.1, q1.2, by rw [hlen] at q1; simp; omega⟩]
      · rw [if_neg q1, if_neg (fun q' => q1 ⟨q'.1, q'.2.1⟩)]; simp
    have h6 : Sim W0 R0 ns (· < n) ⟨s.slots, setMem s.mem id (some (.box ty (splice cells j (zerosC ie ((q + 1) * ie.size))) false))⟩ E a (w.setRow (E.home id).blk (cur.toList.take j ++ (madeCells z0.cells ((q + 1) * ie.size)).toList ++ cur.toList.drop (j + (madeCells z0.cells ((q + 1) * ie.size)).toList.length)).toArray) :=
      hs.write hm rfl rfl (grown_setRow _ _ _) (.box ty _ _ _ (setRow_heap _ _ _ _ _ _ h1) (by simpa using hS.1) hS.2.1 fun i c v hc hv => hS.2.2 i c v hc (by simpa using hv))
    refine oper_in (fun c e => by rw [ho] at e; cases e) ?_
    unfold Oper.wp
    rw [he]
    exact hK n _ E _ _ ⟨rfl, rfl⟩ (h6.put hd (.tup [] #[] rfl (by simp))), fun n' s' ⟨e1, e2⟩ => by rw [e1, e2]; exact h⟩
end
end Go.Proofs.Ytdkneonokbakjaa.Eng

noncomputable section
namespace Go.Proofs.Ytdkneonokbakjaa.Eng
open Go.RowKit
set_option maxRecDepth 100000
set_option maxHeartbeats 8000000
theorem whS_congr {s : RS} {ps : List Int} {A B : Rgs} (h : ∀ j, j < 12 → A j = B j) : whS s ps A = whS s ps B := by
  have e : ∀ A : Rgs, spS A = [.d (iD (A 0).1), .d (iD (A 0).2), .d (iD (A 1).1), .d (iD (A 1).2), .d (iD (A 2).1), .d (iD (A 2).2), .d (iD (A 3).1), .d (iD (A 3).2), .d (iD (A 4).1), .d (iD (A 4).2), .d (iD (A 5).1), .d (iD (A 5).2), .d (iD (A 6).1), .d (iD (A 6).2), .d (iD (A 7).1), .d (iD (A 7).2), .d (iD (A 8).1), .d (iD (A 8).2), .d (iD (A 9).1), .d (iD (A 9).2), .d (iD (A 10).1), .d (iD (A 10).2), .d (iD (A 11).1), .d (iD (A 11).2)] := fun _ => rfl
  unfold whS
  rw [e A, e B, h 0 (by decide), h 1 (by decide), h 2 (by decide), h 3 (by decide), h 4 (by decide), h 5 (by decide), h 6 (by decide), h 7 (by decide), h 8 (by decide), h 9 (by decide), h 10 (by decide), h 11 (by decide)]
theorem WhAt.congr {s : RS} {ps : List Int} {A B : Rgs} {w : Nat} {m : Mem} (h : WhAt s ps A w m) (hb : ∀ j, j < 12 → B j = A j) : WhAt s ps B w m := by
  unfold WhAt
  rw [whS_congr hb]
  exact h
theorem WhAt.only {s : RS} {ps : List Int} {A : Rgs} {w : Nat} {m : Mem} (h : WhAt s ps A w m) : WhAt s ps A w (only m [w]) := by
  show Eng.only m [w] w = _
  rw [only_at, if_pos List.mem_cons_self]
  exact h
theorem wh_put (s : RS) (ps : List Int) (A : Rgs) {k : Nat} (hk : k < 12) (a b : Int) : List.take (6 + k * 2) (whS s ps A) ++ .d (iD a) :: .d (iD b) :: List.drop (6 + k * 2 + 2) (whS s ps A) = whS s ps fun j => if j = k then (a, b) else A j := by
  have h : ∀ p : Fin 12, List.take (6 + p.1 * 2) (whS s ps A) ++ .d (iD a) :: .d (iD b) :: List.drop (6 + p.1 * 2 + 2) (whS s ps A) = whS s ps fun j => if j = p.1 then (a, b) else A j := by
    intro p
    match p with
    | ⟨0, _⟩ => rfl
    | ⟨1, _⟩ => rfl
    | ⟨2, _⟩ => rfl
    | ⟨3, _⟩ => rfl
    | ⟨4, _⟩ => rfl
    | ⟨5, _⟩ => rfl
    | ⟨6, _⟩ => rfl
    | ⟨7, _⟩ => rfl
    | ⟨8, _⟩ => rfl
    | ⟨9, _⟩ => rfl
    | ⟨10, _⟩ => rfl
    | ⟨11, _⟩ => rfl
  exact h ⟨k, hk⟩
theorem use_w {s : RS} {ps : List Int} {A : Rgs} {w : Nat} {m : Mem} (hm : WhAt s ps A w m) (ok : StoOk s ps) (Y : SV) (hY : FnV Y) (mt : Nat → Bool) (n : Nat) (hw : w < n)
    (hM : ∀ p, p < ps.length → ∀ (n' : Nat) (m' : Mem) (B : Rgs), n ≤ n' → WhAt s ps B w m' → (∀ j, j < n → j ≠ w → m' j = m j) → YCall Try.prog Y [.d (iD p)] n' m' fun y n'' m'' => n' ≤ n'' ∧ y = .d (bD (mt p)) ∧ ∀ j, j < n' → m'' j = m' j) :
    CWp Try.prog 84 [.ptr w 0 0, Y] n m fun y n' m' => n ≤ n' ∧ y = .tup [] ∧ WhAt s ps (allR s ps mt) w m' ∧ ∀ j, j < n → j ≠ w → m' j = m j := by
  obtain ⟨hY1, hY2⟩ := hY
  have n2 := ok.n2
  have hl := whS_len s ps
  have hz : splice (whS s ps A) 6 (zerosC { size := 2, bytes := 16, zero := [.int .i64 0, .int .i64 0], kind := .struct [(0, 2), (1, 2)], eqk := [.i64, .i64] } (12 * 2)) = whS s ps fun _ => (0, 0) := by rfl
  refine cwpK tabOk Try.func84 rfl rfl (show 2 ≤ _ by decide) rfl fun _ => ?_; simp only [Try.ntmps84]
  refine AWi.seqK fun _ => ?_
  refine AWi.regionS ?_
  refine ExecS.plain tabOk (out := { res := .ptr w 0 0 }) rfl rfl (by simp [-getElem?_pos, z0, z1, z2]) ?_
  refine ExecS.plain tabOk (out := { res := .ptr w 0 0 }) rfl rfl (by simp [-getElem?_pos, z0, z1, z2, hm]) ?_
  refine ExecS.plain tabOk (out := { res := .ptr w 0 6 }) rfl rfl (by simp [-getElem?_pos, z0, z1, z2, hm]) ?_
  refine ExecS.slice tabOk (N := 12) (id := w) (j := 6) rfl rfl (TB81) rfl (TB23) (by decide) (by simp [-getElem?_pos, z0, z1, z2]) ?_
  refine ExecS.clear tabOk (ty := 83) (N := 12) (id := w) (j := 6) (cp := 12) (cells := whS s ps A) rfl rfl rfl rfl rfl (TB74) rfl (TB23) (by decide) (by simp [-getElem?_pos, z0, z1, z2]) (by simp [putS, hm]) (by simp) ?_
  rw [show splice _ _ _ = _ from hz]
  simp [putS, ExecS]
  with_reducible refine KI.go ?_
  repeat (first | (with_reducible first | refine AWi.seqK fun _ => ?_ | refine AWi.blockK fun _ => ?_ | refine KI.go ?_) | ((first | refine AWi.region tabOk ?_ | refine AWi.condK fun _ _ => ?_ | refine AWi.draws tabOk rfl (by kernel_rfl) (by kernel_rfl) ?_); simp [-getElem?_pos, z0, z1, z2, hl]) | ((first | refine AWi.ret ?_ | refine AWi.skip ?_ | refine AWi.exit ?_); try simp only [thenP]) | (with_reducible refine BB.go ?_; simp only [blockP, thenP, reduceIte]) | (with_reducible refine And.intro (okLog_c (by simp [footOf, guardSlot, slotsOf, idsRead, looks, idsOf, idsOf1, idsWritten, colF]; kernel_rfl)) ?_))
  refine AWi.loopK (fun (k : Nat) n1 t => n ≤ n1 ∧ k ≤ ps.length ∧ t.slots 0 = .ptr w 0 0 ∧ t.slots 1 = Y ∧ t.slots 13 = .d (iD ps.length) ∧ t.slots 14 = .d (iD k) ∧ WhAt s ps (fun j => if j < k then allR s ps mt j else (0, 0)) w t.mem ∧ ∀ j, j < n → j ≠ w → t.mem j = m j) (fun k => ps.length - k) 0 ?_ ?_
  · refine ⟨by omega, Nat.zero_le _, by simp, by simp, by simp [iD], by simp [iD], ?_, fun j h1 h2 => ?_⟩
    · exact if_pos rfl
    · simp [h2]
  rintro k n1 t ⟨r0, r1, t0, t1, t13, t14, tm, tl⟩ kk
  have w1 : IntKind.i64.wrap ((k : Int) + 1) = (k : Int) + 1 := wrap64_in (by omega)
  by_cases hlt : k < ps.length
  · have hii : (k : Int) < ps.length := by omega
    obtain ⟨tu, htu⟩ : ∃ tu, ps[k]? = some tu := ⟨_, List.getElem?_eq_getElem hlt⟩
    repeat (first | (with_reducible first | refine AWi.seqK fun _ => ?_ | refine AWi.blockK fun _ => ?_ | refine KI.go ?_) | ((first | refine AWi.region tabOk ?_ | refine AWi.condK fun _ _ => ?_); simp [-getElem?_pos, z0, z1, z2, t0, t1, t13, t14, hii]) | ((first | refine AWi.ret ?_ | refine AWi.skip ?_ | refine AWi.exit ?_); try simp only [thenP]) | (with_reducible refine BB.go ?_; simp only [blockP, thenP, reduceIte]))
    refine ExecI.callY (Y := Y) (xs := [.d (iD k)]) (hM k hlt _ _ _ (by omega) tm tl) (by simp [-getElem?_pos, z0, z1, z2]) (by simp [calleeV, evList]) ?_
    rintro y n2 m2 ⟨q1, rfl, q3⟩
    have tm2 : WhAt s ps (fun j => if j < k then allR s ps mt j else (0, 0)) w m2 := (q3 w (by omega)).trans tm
    have hall : allR s ps mt k = if mt k then spR s tu else (0, 0) := by rw [allR, htu]
    cases hmt : mt k with
    | false =>
      rw [hmt] at hall
      simp [-getElem?_pos, z0, z1, z2]
      repeat (first | (with_reducible first | refine AWi.seqK fun _ => ?_ | refine AWi.blockK fun _ => ?_ | refine KI.go ?_) | ((first | refine AWi.region tabOk ?_ | refine AWi.condK fun _ _ => ?_); simp [-getElem?_pos, z0, z1, z2, t14, w1]) | ((first | refine AWi.ret ?_ | refine AWi.skip ?_ | refine AWi.exit ?_); try simp only [thenP]) | (with_reducible refine BB.go ?_; simp only [blockP, thenP, reduceIte]))
      refine LI.go (k + 1) ⟨by omega, hlt, by simp [t0], by simp [t1], by simp [t13], by simp [iD], tm2.congr fun j _ => ?_, fun j h1 h2 => (q3 j (by omega)).trans (tl j h1 h2)⟩ (by omega)
      by_cases h1 : j < k
      · rw [if_pos h1, if_pos (by omega)]
      · by_cases h2 : j = k
        · subst h2; rw [if_pos (by omega), if_neg h1, hall]; rfl
        · rw [if_neg h1, if_neg (by omega)]
    | true =>
      rw [hmt, if_pos rfl] at hall
      simp [-getElem?_pos, z0, z1, z2]
      repeat (first | (with_reducible first | refine AWi.seqK fun _ => ?_ | refine AWi.blockK fun _ => ?_ | refine KI.go ?_) | ((first | refine AWi.region tabOk ?_ | refine AWi.condK fun _ _ => ?_); simp [-getElem?_pos, z0, z1, z2, t0, t14, tm2]) | ((first | refine AWi.ret ?_ | refine AWi.skip ?_ | refine AWi.exit ?_); try simp only [thenP]) | (with_reducible refine BB.go ?_; simp only [blockP, thenP, reduceIte]))
      have hk12 : k < 12 := by omega
      have hk12i : (k : Int) < 12 := by omega
      have hput := wh_put s ps (fun j => if j < k then allR s ps mt j else (0, 0)) hk12 (spR s tu).1 (spR s tu).2
      have hwn2 : w < n2 := by omega
      have hle : 6 + k * 2 + 2 ≤ 30 := by omega
      refine AWi.drawsT tabOk mixedR 8 (by kernel_rfl) (by kernel_rfl) ?_
      simp only [List.take_succ_cons, List.take_zero, List.drop_succ_cons, List.drop_zero]
      repeat (with_reducible refine ExecV.auto tabOk ?_; simp [-getElem?_pos, z0, z1, z2, kindV, isPure, t0, tm2, hwn2]; try (refine And.intro (OkV_old (by simp; try omega) (by omega) (by simp [AllAcc])) ?_))
      refine ExecV.ro (x := .agg [.d (iD (spR s tu).1), .d (iD (spR s tu).2)]) (d := rngD (spR s tu)) (svs := [.ptr w 0 0, .d (iD k)]) [w] (RCall.of3 (n0 := w + 1) fun nn hnn => span_w (A := fun j => if j < k then allR s ps mt j else (0, 0)) tm2.only ok.g htu (ok.turn htu) nn (by omega)) rfl rfl (by simp [calleeS, evList]) (OkV_old (by simp; try omega) (by omega) (by simp [AllAcc])) ?_
      repeat (with_reducible refine ExecV.auto tabOk ?_; simp [-getElem?_pos, z0, z1, z2, kindV, isPure, t0, tm2, hwn2, hk12, hk12i, hl, hle]; try (refine And.intro (OkV_old (by simp; try omega) (by omega) (by simp [AllAcc])) ?_))
      unfold ExecV
      simp [-getElem?_pos, z0, z1, z2, tm2, hle, hput]
      repeat (first | (with_reducible first | refine AWi.seqK fun _ => ?_ | refine AWi.blockK fun _ => ?_ | refine KI.go ?_) | ((first | refine AWi.region tabOk ?_ | refine AWi.condK fun _ _ => ?_); simp [-getElem?_pos, z0, z1, z2, t14, w1]) | ((first | refine AWi.ret ?_ | refine AWi.skip ?_ | refine AWi.exit ?_); try simp only [thenP]) | (with_reducible refine BB.go ?_; simp only [blockP, thenP, reduceIte]))
      refine LI.go (k + 1) ⟨by omega, hlt, by simp [t0], by simp [t1], by simp [t13], by simp [iD], WhAt.congr (A := fun j => if j = k then ((spR s tu).1, (spR s tu).2) else if j < k then allR s ps mt j else (0, 0)) (if_pos rfl) fun j _ => ?_, fun j h1 h2 => (if_neg h2).trans ((q3 j (by omega)).trans (tl j h1 h2))⟩ (by omega)
      by_cases h1 : j < k
      · rw [if_pos (by omega), if_neg (by omega), if_pos h1]
      · by_cases h2 : j = k
        · subst h2; rw [if_pos (by omega), if_pos rfl, hall]
        · rw [if_neg (by omega), if_neg h2, if_neg h1]
  · obtain rfl : k = ps.length := by omega
    repeat (first | (with_reducible first | refine AWi.seqK fun _ => ?_ | refine AWi.blockK fun _ => ?_ | refine KI.go ?_) | ((first | refine AWi.region tabOk ?_ | refine AWi.condK fun _ _ => ?_); simp [-getElem?_pos, z0, z1, z2, t13, t14]) | ((first | refine AWi.ret ?_ | refine AWi.skip ?_ | refine AWi.exit ?_); try simp only [thenP]) | (with_reducible refine BB.go ?_; simp only [blockP, thenP, reduceIte]))
    refine RI.normal rfl ⟨by omega, rfl, WhAt.congr (m := t.mem) tm fun j _ => ?_, tl⟩
    by_cases h1 : j < ps.length
    · rw [if_pos h1]
    · rw [if_neg h1, allR, List.getElem?_eq_none (by omega)]
theorem newWheel_w {s : RS} {ps : List Int} (ok : StoOk s ps) (n : Nat) (m : Mem) :
    CWp Try.prog 74 [.agg (sto5 s), .d (intL ps)] n m fun y n' m' => n ≤ n' ∧ (∃ w, n ≤ w ∧ w < n' ∧ y = .ptr w 0 0 ∧ WhAt s ps (allR s ps fun _ => true) w m') ∧ ∀ j, j < n → m' j = m j := by
  refine cwpK tabOk Try.func74 rfl rfl (show 2 ≤ _ by decide) rfl fun _ => ?_; simp only [Try.ntmps74]
  repeat (first | (with_reducible first | refine AWi.seqK fun _ => ?_ | refine AWi.blockK fun _ => ?_ | refine KI.go ?_) | ((first | refine AWi.region tabOk ?_ | refine AWi.condK fun _ _ => ?_); simp [-getElem?_pos, z0, z1, z2, z0]) | ((first | refine AWi.ret ?_ | refine AWi.skip ?_ | refine AWi.exit ?_); try simp only [thenP]) | (with_reducible refine BB.go ?_; simp only [blockP, thenP, reduceIte]))
  refine ExecI.callC (use_w (s := s) (ps := ps) (A := fun _ => (0, 0)) (w := n + 1 + 1 + 1 + 1 + 1) (if_pos rfl) ok (.fn 50 [.ptr (n + 1 + 1 + 1 + 1 + 1) 0 0] []) ⟨rfl, rfl⟩ (fun _ => true) _ (by omega) fun p hp n' m' B h1 h2 _ => YCall.fn ((isPulley_w h2 p n').mono fun y n2 m2 ⟨q1, _, e1, e2⟩ => ⟨q1, by rw [e1, decide_eq_true (by omega)], fun _ _ => by rw [e2]⟩)) rfl (by simp [calleeS, evList]) ?_
  rintro y n2 m2 ⟨q1, rfl, q3, q4⟩
  simp
  repeat (first | (with_reducible first | refine AWi.seqK fun _ => ?_ | refine AWi.blockK fun _ => ?_ | refine KI.go ?_) | ((first | refine AWi.region tabOk ?_ | refine AWi.condK fun _ _ => ?_); simp [-getElem?_pos, z0, z1, z2, z0]) | ((first | refine AWi.ret ?_ | refine AWi.skip ?_ | refine AWi.exit ?_); try simp only [thenP]) | (with_reducible refine BB.go ?_; simp only [blockP, thenP, reduceIte]))
  refine RI.ret rfl ⟨by omega, ⟨_, by omega, by omega, rfl, q3⟩, fun j hj => (q4 j (by omega) (by omega)).trans (by (try dsimp only); repeat (first | rw [setMem_lt (by omega)] | rw [putN_lt (by omega)]))⟩
def whP (s : RS) (ps : List Int) (n n' : Nat) (m m' : Mem) (y : SV) : Prop := if stoE s ps = 0 then ∃ w, n ≤ w ∧ w < n' ∧ y = .tup [.ptr w 0 0, .d (iD 0)] ∧ WhAt s ps (allR s ps fun _ => true) w m' else y = .tup [.d (.val (.pointer none)), .d (iD (stoE s ps))]
theorem check_w (s : RS) (ps : List Int) (hl : ps.length ≤ 1000000) (n : Nat) (m : Mem) :
    CWp Try.prog 49 [.agg (sto5 s), .d (intL ps)] n m fun y n' m' => n ≤ n' ∧ whP s ps n n' m m' y ∧ ∀ j, j < n → m' j = m j := by
  have cs := checkStone_c s ps hl
  by_cases h0 : stoE s ps = 0
  · rw [h0] at cs
    refine cwpK tabOk Try.func49 rfl rfl (show 2 ≤ _ by decide) rfl fun _ => ?_; simp only [Try.ntmps49]
    repeat (first | (with_reducible first | refine AWi.seqK fun _ => ?_ | refine AWi.blockK fun _ => ?_ | refine KI.go ?_) | ((first | refine AWi.region tabOk ?_ | refine AWi.condK fun _ _ => ?_); simp [-getElem?_pos, z0, z1, z2, z0]) | ((first | refine AWi.ret ?_ | refine AWi.skip ?_ | refine AWi.exit ?_); try simp only [thenP]) | (with_reducible refine BB.go ?_; simp only [blockP, thenP, reduceIte]))
    refine ExecI.call [] cs ?_ rfl ?_ ?_; (focus simp [-getElem?_pos, ]); (focus simp [-getElem?_pos, z0, z1, z2, ]); simp [-getElem?_pos, z0, z1, z2, ]
    repeat (first | (with_reducible first | refine AWi.seqK fun _ => ?_ | refine AWi.blockK fun _ => ?_ | refine KI.go ?_) | ((first | refine AWi.region tabOk ?_ | refine AWi.condK fun _ _ => ?_); simp [-getElem?_pos, z0, z1, z2, z0]) | ((first | refine AWi.ret ?_ | refine AWi.skip ?_ | refine AWi.exit ?_); try simp only [thenP]) | (with_reducible refine BB.go ?_; simp only [blockP, thenP, reduceIte]))
    refine ExecI.callC (newWheel_w (stoE_ok.1 h0) _ _) rfl (by simp [calleeS, evList]) ?_
    rintro y n2 m2 ⟨q1, ⟨w, h1, h2, rfl, h3⟩, q4⟩
    simp
    repeat (first | (with_reducible first | refine AWi.seqK fun _ => ?_ | refine AWi.blockK fun _ => ?_ | refine KI.go ?_) | ((first | refine AWi.region tabOk ?_ | refine AWi.condK fun _ _ => ?_); simp [-getElem?_pos, z0, z1, z2, z0]) | ((first | refine AWi.ret ?_ | refine AWi.skip ?_ | refine AWi.exit ?_); try simp only [thenP]) | (with_reducible refine BB.go ?_; simp only [blockP, thenP, reduceIte]))
    refine RI.ret rfl ⟨by omega, ?_, fun j hj => (q4 j (by omega)).trans (by (try dsimp only); repeat (first | rw [setMem_lt (by omega)] | rw [putN_lt (by omega)]))⟩
    rw [whP, if_pos h0]
    exact ⟨w, by omega, by omega, rfl, h3⟩
  · refine cwpK tabOk Try.func49 rfl rfl (show 2 ≤ _ by decide) rfl fun _ => ?_; simp only [Try.ntmps49]
    repeat (first | (with_reducible first | refine AWi.seqK fun _ => ?_ | refine AWi.blockK fun _ => ?_ | refine KI.go ?_) | ((first | refine AWi.region tabOk ?_ | refine AWi.condK fun _ _ => ?_); simp [-getElem?_pos, z0, z1, z2, z0]) | ((first | refine AWi.ret ?_ | refine AWi.skip ?_ | refine AWi.exit ?_); try simp only [thenP]) | (with_reducible refine BB.go ?_; simp only [blockP, thenP, reduceIte]))
    refine ExecI.call [] cs ?_ rfl ?_ ?_; (focus simp [-getElem?_pos, ]); (focus simp [-getElem?_pos, z0, z1, z2, ]); simp [-getElem?_pos, z0, z1, z2, ]
    repeat (first | (with_reducible first | refine AWi.seqK fun _ => ?_ | refine AWi.blockK fun _ => ?_ | refine KI.go ?_) | ((first | refine AWi.region tabOk ?_ | refine AWi.condK fun _ _ => ?_); simp [-getElem?_pos, z0, z1, z2, h0]) | ((first | refine AWi.ret ?_ | refine AWi.skip ?_ | refine AWi.exit ?_); try simp only [thenP]) | (with_reducible refine BB.go ?_; simp only [blockP, thenP, reduceIte]))
    refine RI.ret rfl ⟨by omega, ?_, fun j hj => by (try dsimp only); repeat (first | rw [setMem_lt (by omega)] | rw [putN_lt (by omega)])⟩
    rw [whP, if_neg h0]
    rfl
end Go.Proofs.Ytdkneonokbakjaa.Eng

noncomputable section
namespace Go.Proofs.Ytdkneonokbakjaa.Eng
open Go.RowKit
set_option maxRecDepth 100000
set_option maxHeartbeats 8000000
theorem spR_zero {s : RS} (hg : GoodR s) (t : Int) : ((spR s t).1 = 0 ∧ (spR s t).2 = 0) ↔ (betR s t).2 < (betR s t).1 := by
  have := hg.s1
  have h : s.short ≤ (betR s t).1 := by simp only [betR]; omega
  unfold spR
  by_cases g : (betR s t).2 < (betR s t).1
  · rw [if_pos g]; simp [g]
  · rw [if_neg g]
    constructor
    · rintro ⟨h1, -⟩; omega
    · exact fun h => absurd h g
theorem allR_true {s : RS} {ps : List Int} {k : Nat} {t : Int} (h : ps[k]? = some t) : allR s ps (fun _ => true) k = spR s t := by rw [allR, h]; rfl
theorem allowed_x (s : RS) (ps : List Int) (hl : ps.length ≤ 1000000) (p : Int) (n : Nat) (m : Mem) :
    CWp Try.prog 18 [.d (stoD s), .d (intL ps), .d (iD p)] n m fun y n' m' => toD4 y = some (.tup [rngD (allV s ps p), iD (allE s ps p)]) ∧ ∀ j, j < n → m' j = m j := by
  by_cases h0 : stoE s ps = 0
  · have ok := stoE_ok.1 h0
    have hg := ok.g
    have n2 := ok.n2
    refine cwpK tabOk Try.func18 rfl rfl (show 3 ≤ _ by decide) rfl fun _ => ?_; simp only [Try.ntmps18]
    repeat (first | (with_reducible first | refine AWi.seqK fun _ => ?_ | refine AWi.blockK fun _ => ?_ | refine KI.go ?_) | ((first | refine AWi.region tabOk ?_ | refine AWi.condK fun _ _ => ?_); simp [-getElem?_pos, z0, z1, z2, z0]) | ((first | refine AWi.ret ?_ | refine AWi.skip ?_ | refine AWi.exit ?_); try simp only [thenP]) | (with_reducible refine BB.go ?_; simp only [blockP, thenP, reduceIte]))
    refine ExecI.callC (check_w s ps hl _ _) rfl (by simp [calleeS, evList]) ?_
    rintro y n1 m1 ⟨q1, q2, q3⟩
    rw [whP, if_pos h0] at q2
    obtain ⟨w, q4, q5, rfl, hw⟩ := q2
    simp
    repeat (first | (with_reducible first | refine AWi.seqK fun _ => ?_ | refine AWi.blockK fun _ => ?_ | refine KI.go ?_) | ((first | refine AWi.region tabOk ?_ | refine AWi.condK fun _ _ => ?_); simp [-getElem?_pos, z0, z1, z2, z0]) | ((first | refine AWi.ret ?_ | refine AWi.skip ?_ | refine AWi.exit ?_); try simp only [thenP]) | (with_reducible refine BB.go ?_; simp only [blockP, thenP, reduceIte]))
    refine ExecI.callC (isPulley_w hw p _) rfl (by simp [calleeS, evList]) ?_
    rintro y n2' m2 ⟨q6, q7, rfl, rfl⟩
    have hlow : ∀ j, j < n → m2 j = m j := fun j hj => (q3 j (by omega)).trans (by (try dsimp only); repeat (first | rw [setMem_lt (by omega)] | rw [putN_lt (by omega)]))
    have hres : m2 (n + 1) = some (.box 23 [.d (iD 0), .d (iD 0)] false) := (q3 _ (by omega)).trans (by simp)
    by_cases hp : 0 ≤ p ∧ p < ps.length
    · rw [decide_eq_true hp]
      obtain ⟨k, rfl⟩ := Int.eq_ofNat_of_zero_le hp.1
      have hk : k < ps.length := by omega
      obtain ⟨t, ht⟩ : ∃ t, ps[k]? = some t := ⟨_, List.getElem?_eq_getElem hk⟩
      have hk12 : k < 12 := by omega
      have hk12i : (k : Int) < 12 := by omega
      have hat := wh_at s ps (allR s ps fun _ => true) hk12
      rw [allR_true ht] at hat
      have hle : 6 + k * 2 + 2 ≤ 30 := by omega
      have hE : allE s ps (k : Int) = if (betR s t).2 < (betR s t).1 then 5 else 0 := by rw [allE, if_pos h0, if_neg (by omega), Int.toNat_natCast, betA_at ht]
      have hV : allV s ps (k : Int) = if (betR s t).2 < (betR s t).1 then (0, 0) else betR s t := by
        rw [allV, hE, Int.toNat_natCast, betA_at ht]
        split <;> simp
      have hz := spR_zero hg t
      have hsp : ¬ (betR s t).2 < (betR s t).1 → spR s t = betR s t := fun h => by rw [spR, if_neg h]
      by_cases g : (betR s t).2 < (betR s t).1
      · obtain ⟨z1, z2⟩ := hz.2 g
        rw [if_pos g] at hE hV
        simp [-getElem?_pos, z0, z1, z2]
        repeat (first | (with_reducible first | refine AWi.seqK fun _ => ?_ | refine AWi.blockK fun _ => ?_ | refine KI.go ?_) | ((first | refine AWi.region tabOk ?_ | refine AWi.condK fun _ _ => ?_); simp [-getElem?_pos, z0, z1, z2, hw, hat, hk12, hk12i, hle, hres, z1, z2]) | ((first | refine AWi.ret ?_ | refine AWi.skip ?_ | refine AWi.exit ?_); try simp only [thenP]) | (with_reducible refine BB.go ?_; simp only [blockP, thenP, reduceIte]))
        refine RI.ret (xs := [.agg [.d (iD 0), .d (iD 0)], .d (iD 5)]) (by simp [Try.results18, resSlots, resSlot, hres]) ?_
        exact ⟨by rw [hE, hV]; rfl, fun j hj => Eq.trans (by (try dsimp only); repeat (first | rw [setMem_lt (by omega)] | rw [putN_lt (by omega)])) (hlow j hj)⟩
      · have hs2 := hsp g
        rw [if_neg g] at hE hV
        have z3 : ¬ ((betR s t).1 = 0 ∧ (betR s t).2 = 0) := fun h => by
          rw [hs2] at hz
          exact g (hz.1 h)
        rw [hs2] at hat
        generalize betR s t = r at *
        obtain ⟨x, y⟩ := r
        simp only at z3
        simp [-getElem?_pos, z0, z1, z2]
        have o1 : ¬ n = n2' + 6 := by omega
        repeat (first | (with_reducible first | refine AWi.seqK fun _ => ?_ | refine AWi.blockK fun _ => ?_ | refine KI.go ?_) | ((first | refine AWi.region tabOk ?_ | refine AWi.condK fun _ _ => ?_); simp [-getElem?_pos, z0, z1, z2, hw, hat, hk12, hk12i, hle, hres, z3, o1]) | ((first | refine AWi.ret ?_ | refine AWi.skip ?_ | refine AWi.exit ?_); try simp only [thenP]) | (with_reducible refine BB.go ?_; simp only [blockP, thenP, reduceIte]))
        refine RI.ret (xs := [.agg [.d (iD x), .d (iD y)], .d (iD 0)]) (by simp [Try.results18, resSlots, resSlot, hres]) ?_
        exact ⟨by rw [hE, hV]; rfl, fun j hj => Eq.trans (by (try dsimp only); repeat (first | rw [setMem_lt (by omega)] | rw [putN_lt (by omega)])) (hlow j hj)⟩
    · rw [decide_eq_false hp]
      have hE : allE s ps p = 3 := by rw [allE, if_pos h0, if_pos (by omega)]
      have hV : allV s ps p = (0, 0) := by rw [allV, hE, if_neg (by decide)]
      simp [-getElem?_pos, z0, z1, z2]
      repeat (first | (with_reducible first | refine AWi.seqK fun _ => ?_ | refine AWi.blockK fun _ => ?_ | refine KI.go ?_) | ((first | refine AWi.region tabOk ?_ | refine AWi.condK fun _ _ => ?_); simp [-getElem?_pos, z0, z1, z2, hres]) | ((first | refine AWi.ret ?_ | refine AWi.skip ?_ | refine AWi.exit ?_); try simp only [thenP]) | (with_reducible refine BB.go ?_; simp only [blockP, thenP, reduceIte]))
      refine RI.ret (xs := [.agg [.d (iD 0), .d (iD 0)], .d (iD 3)]) (by simp [Try.results18, resSlots, resSlot, hres]) ?_
      exact ⟨by rw [hE, hV]; rfl, fun j hj => Eq.trans (by (try dsimp only); repeat (first | rw [setMem_lt (by omega)] | rw [putN_lt (by omega)])) (hlow j hj)⟩
  · have hE : allE s ps p = stoE s ps := by rw [allE, if_neg h0]
    have hV : allV s ps p = (0, 0) := by rw [allV, hE, if_neg h0]
    rw [hE, hV]
    refine cwpK tabOk Try.func18 rfl rfl (show 3 ≤ _ by decide) rfl fun _ => ?_; simp only [Try.ntmps18]
    repeat (first | (with_reducible first | refine AWi.seqK fun _ => ?_ | refine AWi.blockK fun _ => ?_ | refine KI.go ?_) | ((first | refine AWi.region tabOk ?_ | refine AWi.condK fun _ _ => ?_); simp [-getElem?_pos, z0, z1, z2, z0]) | ((first | refine AWi.ret ?_ | refine AWi.skip ?_ | refine AWi.exit ?_); try simp only [thenP]) | (with_reducible refine BB.go ?_; simp only [blockP, thenP, reduceIte]))
    refine ExecI.callC (check_w s ps hl _ _) rfl (by simp [calleeS, evList]) ?_
    rintro y n1 m1 ⟨q1, q2, q3⟩
    rw [whP, if_neg h0] at q2
    subst q2
    have hlow : ∀ j, j < n → m1 j = m j := fun j hj => (q3 j (by omega)).trans (by (try dsimp only); repeat (first | rw [setMem_lt (by omega)] | rw [putN_lt (by omega)]))
    have hres : m1 (n + 1) = some (.box 23 [.d (iD 0), .d (iD 0)] false) := (q3 _ (by omega)).trans (by simp)
    simp
    repeat (first | (with_reducible first | refine AWi.seqK fun _ => ?_ | refine AWi.blockK fun _ => ?_ | refine KI.go ?_) | ((first | refine AWi.region tabOk ?_ | refine AWi.condK fun _ _ => ?_); simp [-getElem?_pos, z0, z1, z2, h0, hres]) | ((first | refine AWi.ret ?_ | refine AWi.skip ?_ | refine AWi.exit ?_); try simp only [thenP]) | (with_reducible refine BB.go ?_; simp only [blockP, thenP, reduceIte]))
    refine RI.ret (xs := [.agg [.d (iD 0), .d (iD 0)], .d (iD (stoE s ps))]) (by simp [Try.results18, resSlots, resSlot, hres]) ?_
    exact ⟨rfl, fun j hj => Eq.trans (by (try dsimp only); repeat (first | rw [setMem_lt (by omega)] | rw [putN_lt (by omega)])) (hlow j hj)⟩
theorem allowed_c (s : RS) (ps : List Int) (hl : ps.length ≤ 1000000) (p : Int) : ACall Try.prog 18 [stoD s, intL ps, iD p] (.tup [rngD (allV s ps p), iD (allE s ps p)]) :=
  ACall.ofR (RCall.of4 (n0 := 0) fun n _ => (allowed_x s ps hl p n _).mono fun _ _ _ h => h)
end Go.Proofs.Ytdkneonokbakjaa.Eng

noncomputable section
namespace Go.Proofs.Ytdkneonokbakjaa.Eng
open Go.RowKit
set_option maxRecDepth 100000
set_option maxHeartbeats 8000000
theorem AWi.scope0 {P : Program} {r : Option Nat} {ns n : Nat} {c : Code} {s : St} {Q : Post} (h : AWi P r ns c n s (fun e n s => (∀ l, e ≠ .goto l) ∧ Q e n s)) : AWi P r ns (.scope c) n s Q :=
  AWi.scope (AWs.of (h.mono fun e n s ⟨h1, h2⟩ => by
    cases e with
    | goto l => exact absurd rfl (h1 l)
    | _ => exact h2))
section
variable {P : Program} {r : Option Nat} {ops : Array Oper} {ns n : Nat} {o : Oper} {l : List Oper} {s : St} {Q : Nat → St → Prop}
theorem ExecS.bigeq {T0 : QTab} (hQ : QTabOk P T0) {t tt : TypeId} {x y : Operand} {X Y z0 : SV} (ho : o.op = .binOp .eql t x y tt) (hg : guardS ops ns s o = some true) (hx : opd ns s x = some X) (hy : opd ns s y = some Y) (h0 : bigEq T0 .eql t X Y = some z0)
    (h : ExecS P r ns ops n l ⟨setSlot s.slots o.dst z0, s.mem⟩ Q) : ExecS P r ns ops n (o :: l) s Q :=
  ⟨hg, fun n' s' => n' = n ∧ s' = ⟨setSlot s.slots o.dst z0, s.mem⟩, fun W0 R0 B E a w hin hs hd K Q' hK => by
    have hr1 := hs.opd hx
    have hr2 := hs.opd hy
    obtain ⟨z, h1, h2⟩ := bigEq_run hQ h0 hr1 hr2 x y
    refine oper_in (fun c e => by rw [ho] at e; cases e) ?_
    unfold Oper.wp
    have he : (execOp a.eval o).run P w = .ok (.value z) w := by
      simp only [execOp, ho, Sem.run_bind] at h1 ⊢
      simp [h1]
    rw [he]
    exact hK n _ E _ w ⟨rfl, rfl⟩ (hs.put hd h2), fun n' s' ⟨e1, e2⟩ => by rw [e1, e2]; exact h⟩
end
def endsL (A : Rgs) : List Int := (List.range 12).flatMap fun j => [(A j).1, (A j).2]
theorem spS_map (A : Rgs) : spS A = (endsL A).map (SV.d ∘ iD) := rfl
theorem cmpL_ints {per : List CK} (hper : ∀ i : Nat, per[i % per.length]? = some (.int .i64)) : ∀ (xs ys : List Int) (i : Nat), xs.length = ys.length → (∀ x ∈ xs, (Lit.int .i64 x).wf = true) → (∀ x ∈ ys, (Lit.int .i64 x).wf = true) → cmpL per i (xs.map (SV.d ∘ iD)) (ys.map (SV.d ∘ iD)) = some (decide (xs = ys))
  | [], [], i, _, _, _ => by simp [cmpL]
  | x :: xs, y :: ys, i, h, hx, hy => by
    have ih := cmpL_ints hper xs ys (i + 1) (by simpa using h) (fun a ha => hx a (List.mem_cons_of_mem _ ha)) fun a ha => hy a (List.mem_cons_of_mem _ ha)
    have h1 := hx x List.mem_cons_self
    have h2 := hy y List.mem_cons_self
    have e := hper i
    simp only [List.map_cons, Function.comp_apply, cmpL, e, ih, okCell, h1, h2, and_self, if_true, same, Option.some.injEq]
    rw [Bool.eq_iff_iff]
    simp
  | [], _ :: _, _, h, _, _ => by simp at h
  | _ :: _, [], _, h, _, _ => by simp at h
theorem wf64 {x : Int} (h1 : -9223372036854775808 ≤ x) (h2 : x ≤ 9223372036854775807) : (Lit.int .i64 x).wf = true := by
  have e1 : IntKind.i64.min = -9223372036854775808 := by decide
  have e2 : IntKind.i64.max = 9223372036854775807 := by decide
  simp only [Lit.wf, e1, e2, Bool.and_eq_true, decide_eq_true_eq]
  exact ⟨h1, h2⟩
theorem allR_in {s : RS} {ps : List Int} (ok : StoOk s ps) (j : Nat) : -1000000000 ≤ (allR s ps (fun _ => true) j).1 ∧ (allR s ps (fun _ => true) j).1 ≤ 2000000000 ∧ -1000000000 ≤ (allR s ps (fun _ => true) j).2 ∧ (allR s ps (fun _ => true) j).2 ≤ 2000000000 := by
  have hg := ok.g
  have := hg.s1; have := hg.s2; have := hg.s3; have := hg.o1; have := hg.o2; have := hg.l1; have := hg.l2; have := hg.l3
  unfold allR
  cases hj : ps[j]? with
  | none => simp
  | some t =>
    obtain ⟨t1, t2⟩ := ok.turn hj
    simp only [if_true, spR]
    split
    · simp
    · have a1 : 0 ≤ (s.lo + t - 1) / t := Int.ediv_nonneg (by omega) (by omega)
      have a2 : (s.lo + t - 1) / t ≤ 1000010000 := Int.le_trans (Int.ediv_le_self _ (by omega)) (by omega)
      have b1 : 0 ≤ s.hi / t := Int.ediv_nonneg (by omega) (by omega)
      have b2 : s.hi / t ≤ 1000000000 := Int.le_trans (Int.ediv_le_self _ (by omega)) (by omega)
      simp only [betR]
      omega
theorem ends_zero_iff (A : Rgs) : endsL A = List.replicate 24 0 ↔ ∀ j, j < 12 → A j = (0, 0) := by
  constructor
  · intro h j hj
    have e : endsL A = [(A 0).1, (A 0).2, (A 1).1, (A 1).2, (A 2).1, (A 2).2, (A 3).1, (A 3).2, (A 4).1, (A 4).2, (A 5).1, (A 5).2, (A 6).1, (A 6).2, (A 7).1, (A 7).2, (A 8).1, (A 8).2, (A 9).1, (A 9).2, (A 10).1, (A 10).2, (A 11).1, (A 11).2] := rfl
    rw [e] at h
    simp only [List.replicate, List.cons.injEq, and_true] at h
    have : j = 0 ∨ j = 1 ∨ j = 2 ∨ j = 3 ∨ j = 4 ∨ j = 5 ∨ j = 6 ∨ j = 7 ∨ j = 8 ∨ j = 9 ∨ j = 10 ∨ j = 11 := by omega
    rcases this with rfl | rfl | rfl | rfl | rfl | rfl | rfl | rfl | rfl | rfl | rfl | rfl <;> exact Prod.ext (by simp [h]) (by simp [h])
  · intro h
    have e : endsL A = [(A 0).1, (A 0).2, (A 1).1, (A 1).2, (A 2).1, (A 2).2, (A 3).1, (A 3).2, (A 4).1, (A 4).2, (A 5).1, (A 5).2, (A 6).1, (A 6).2, (A 7).1, (A 7).2, (A 8).1, (A 8).2, (A 9).1, (A 9).2, (A 10).1, (A 10).2, (A 11).1, (A 11).2] := rfl
    rw [e, h 0 (by decide), h 1 (by decide), h 2 (by decide), h 3 (by decide), h 4 (by decide), h 5 (by decide), h 6 (by decide), h 7 (by decide), h 8 (by decide), h 9 (by decide), h 10 (by decide), h 11 (by decide)]
    rfl
theorem gap_12 {s : RS} {ps : List Int} (ok : StoOk s ps) : gapR (allR s ps fun _ => true) 12 s.long s.short = gapR (betA s ps) ps.length s.long s.short := by
  have hs := ok.g.s1
  have n2 := ok.n2
  rw [← (runs_bet ok (n := ps.length) (Int.le_refl s.short) s.long).2]
  have hno : ∀ j x, ps.length ≤ j → s.short ≤ x → bearB (allR s ps fun _ => true) j x = false := fun j x hj hx => by
    rw [bearB, allR, List.getElem?_eq_none hj]
    exact decide_eq_false (by simp only; omega)
  cases hg : gapR (allR s ps fun _ => true) ps.length s.long s.short with
  | none =>
    refine gap_all fun z h1 h2 => ?_
    obtain ⟨j, hj, hb⟩ := gap_none hg z h1 h2
    exact ⟨j, by omega, hb⟩
  | some y =>
    have g := gap_some hg
    refine gap_eq ⟨g.le, g.ge, fun j hj => ?_, fun z h1 h2 => ?_⟩
    · by_cases hl : j < ps.length
      · exact g.no j hl
      · exact hno j y (by omega) g.ge
    · obtain ⟨j, hj, hb⟩ := g.all z h1 h2
      exact ⟨j, by omega, hb⟩
def gapV2 (s : RS) (ps : List Int) : SV := match gapR (betA s ps) ps.length s.long s.short with
  | some y => .tup [.d (iD y), .d (bD true)]
  | none => .tup [.d (iD 0), .d (bD false)]
theorem WhAt.set {s : RS} {ps : List Int} {A : Rgs} {w j : Nat} {m : Mem} {b : Option Blk} (h : WhAt s ps A w m) (hj : w ≠ j) : WhAt s ps A w (setMem m j b) := (if_neg hj).trans h
theorem allR_ge {s : RS} {ps : List Int} (ok : StoOk s ps) {j : Nat} {x : Int} (hx : s.short ≤ x) (hb : bearB (allR s ps fun _ => true) j x = true) : s.short ≤ (allR s ps (fun _ => true) j).1 := by
  have h1 := bear_val ok hx hb
  rw [bear_bet ok hx] at hb
  rw [h1]
  exact (bet_ge hb).1
theorem big_eq {s : RS} {ps : List Int} (ok : StoOk s ps) : bigEq QT .eql 81 (.agg (spS (allR s ps fun _ => true))) (.agg (List.replicate 24 (.d (iD 0)))) = some (.d (bD (decide (endsL (allR s ps fun _ => true) = List.replicate 24 0)))) := by
  have e1 : (List.replicate 24 (SV.d (iD 0))) = (List.replicate 24 (0 : Int)).map (SV.d ∘ iD) := rfl
  have hc := cmpL_ints (per := [.int .i64, .int .i64]) (fun i => by
      have : i % 2 = 0 ∨ i % 2 = 1 := by omega
      rcases this with h | h <;> simp [h]) (endsL (allR s ps fun _ => true)) (List.replicate 24 0) 0 rfl (fun x hx => by
      rw [endsL, List.mem_flatMap] at hx
      obtain ⟨j, -, hj⟩ := hx
      have := allR_in ok j
      simp at hj
      rcases hj with rfl | rfl
      · exact wf64 (by omega) (by omega)
      · exact wf64 (by omega) (by omega)) fun x hx => by
      have := (List.mem_replicate.1 hx).2
      subst this
      rfl
  rw [← e1, ← spS_map] at hc
  unfold bigEq QT
  simp [SV.one, SV.fit, SV.cells, hc, -List.reduceReplicate]
theorem gap_w {s : RS} {ps : List Int} (ok : StoOk s ps) {w : Nat} {m : Mem} (hm : WhAt s ps (allR s ps fun _ => true) w m) (n : Nat) (hw : w < n) :
    CWp Try.prog 52 [.ptr w 0 0] n m fun y n' m' => n ≤ n' ∧ y = gapV2 s ps ∧ ∀ j, j < n → m' j = m j := by
  have hg := ok.g
  have g1 := hg.s1; have g2 := hg.s2; have g3 := hg.s3
  have hl := whS_len s ps
  have hG := gap_12 ok
  have hsame : ∀ r, gapR (betA s ps) ps.length s.long s.short = r → gapV2 s ps = (match r with | some y => .tup [.d (iD y), .d (bD true)] | none => .tup [.d (iD 0), .d (bD false)]) := fun r h => by rw [gapV2, h]
  have hbig := big_eq ok
  by_cases hz : endsL (allR s ps fun _ => true) = List.replicate 24 0
  · have hno := (ends_zero_iff _).1 hz
    have hgap : gapR (betA s ps) ps.length s.long s.short = some s.long := by
      rw [← hG]
      exact gap_eq ⟨Int.le_refl _, g2, fun j hj => by rw [bearB, hno j hj]; exact decide_eq_false (by simp only; omega), fun z h1 h2 => by omega⟩
    rw [decide_eq_true hz] at hbig
    refine cwpK tabOk Try.func52 rfl rfl (show 1 ≤ _ by decide) rfl fun _ => ?_; simp only [Try.ntmps52]
    repeat (first | (with_reducible first | refine AWi.seqK fun _ => ?_ | refine AWi.blockK fun _ => ?_ | refine KI.go ?_) | (refine AWi.condK fun _ _ => ?_; simp [-getElem?_pos, z0, z1, z2, z0]) | ((first | refine AWi.ret ?_ | refine AWi.skip ?_ | refine AWi.exit ?_); try simp only [thenP]) | (with_reducible refine BB.go ?_; simp only [blockP, thenP, reduceIte]))
    refine AWi.region tabOk ?_
    simp [-getElem?_pos, z0, z1, z2]
    with_reducible refine KI.go ?_
    refine AWi.scope0 ?_
    repeat (first | (with_reducible first | refine AWi.seqK fun _ => ?_ | refine AWi.blockK fun _ => ?_ | refine KI.go ?_) | (refine AWi.condK fun _ _ => ?_; simp [-getElem?_pos, z0, z1, z2, z0]) | ((first | refine AWi.ret ?_ | refine AWi.skip ?_ | refine AWi.exit ?_); try simp only [thenP]) | (with_reducible refine BB.go ?_; simp only [blockP, thenP, reduceIte]))
    refine AWi.regionS ?_
    refine ExecS.plain tabOk (out := { res := .ptr w 0 0 }) rfl rfl (by simp [-getElem?_pos, z0, z1, z2]) ?_
    refine ExecS.plain tabOk (out := { res := .ptr w 0 0 }) rfl rfl (by simp [-getElem?_pos, z0, z1, z2, hm]) ?_
    refine ExecS.plain tabOk (out := { res := .ptr w 0 6 }) rfl rfl (by simp [-getElem?_pos, z0, z1, z2, hm]) ?_
    refine ExecS.plain tabOk (out := { res := .agg (spS (allR s ps fun _ => true)) }) rfl rfl (by simp [-getElem?_pos, z0, z1, z2, hm]) ?_
    refine ExecS.plain tabOk (out := { res := .agg (List.replicate 24 (.d (iD 0))) }) rfl rfl (by simp [-getElem?_pos, z0, z1, z2]) ?_
    refine ExecS.bigeq (T0 := QT) qtOk (X := .agg (spS (allR s ps fun _ => true))) (Y := .agg (List.replicate 24 (.d (iD 0)))) rfl rfl (by simp [-getElem?_pos, z0, z1, z2]) (by simp [-getElem?_pos, z0, z1, z2]) hbig ?_
    simp [putS, ExecS]
    with_reducible refine KI.go ?_
    repeat (first | (with_reducible first | refine AWi.seqK fun _ => ?_ | refine AWi.blockK fun _ => ?_ | refine KI.go ?_) | ((first | refine AWi.region tabOk ?_ | refine AWi.condK fun _ _ => ?_); simp [-getElem?_pos, z0, z1, z2, hm]) | ((first | refine AWi.ret ?_ | refine AWi.skip ?_ | refine AWi.exit ?_); try simp only [thenP]) | (with_reducible refine BB.go ?_; simp only [blockP, thenP, reduceIte]))
    exact ⟨by simp, RI.ret rfl ⟨by omega, by rw [hsame _ hgap]; rfl, fun j hj => rfl⟩⟩
  rw [decide_eq_false hz] at hbig
  clear hz
  refine cwpK tabOk Try.func52 rfl rfl (show 1 ≤ _ by decide) rfl fun _ => ?_; simp only [Try.ntmps52]
  repeat (first | (with_reducible first | refine AWi.seqK fun _ => ?_ | refine AWi.blockK fun _ => ?_ | refine KI.go ?_) | (refine AWi.condK fun _ _ => ?_; simp [-getElem?_pos, z0, z1, z2, z0]) | ((first | refine AWi.ret ?_ | refine AWi.skip ?_ | refine AWi.exit ?_); try simp only [thenP]) | (with_reducible refine BB.go ?_; simp only [blockP, thenP, reduceIte]))
  refine AWi.region tabOk ?_
  simp [-getElem?_pos, z0, z1, z2]
  with_reducible refine KI.go ?_
  refine AWi.scope0 ?_
  repeat (first | (with_reducible first | refine AWi.seqK fun _ => ?_ | refine AWi.blockK fun _ => ?_ | refine KI.go ?_) | (refine AWi.condK fun _ _ => ?_; simp [-getElem?_pos, z0, z1, z2, z0]) | ((first | refine AWi.ret ?_ | refine AWi.skip ?_ | refine AWi.exit ?_); try simp only [thenP]) | (with_reducible refine BB.go ?_; simp only [blockP, thenP, reduceIte]))
  refine AWi.regionS ?_
  refine ExecS.plain tabOk (out := { res := .ptr w 0 0 }) rfl rfl (by simp [-getElem?_pos, z0, z1, z2]) ?_
  refine ExecS.plain tabOk (out := { res := .ptr w 0 0 }) rfl rfl (by simp [-getElem?_pos, z0, z1, z2, hm]) ?_
  refine ExecS.plain tabOk (out := { res := .ptr w 0 6 }) rfl rfl (by simp [-getElem?_pos, z0, z1, z2, hm]) ?_
  refine ExecS.plain tabOk (out := { res := .agg (spS (allR s ps fun _ => true)) }) rfl rfl (by simp [-getElem?_pos, z0, z1, z2, hm]) ?_
  refine ExecS.plain tabOk (out := { res := .agg (List.replicate 24 (.d (iD 0))) }) rfl rfl (by simp [-getElem?_pos, z0, z1, z2]) ?_
  refine ExecS.bigeq (T0 := QT) qtOk (X := .agg (spS (allR s ps fun _ => true))) (Y := .agg (List.replicate 24 (.d (iD 0)))) rfl rfl (by simp [-getElem?_pos, z0, z1, z2]) (by simp [-getElem?_pos, z0, z1, z2]) hbig ?_
  simp [putS, ExecS]
  with_reducible refine KI.go ?_
  repeat (first | (with_reducible first | refine AWi.seqK fun _ => ?_ | refine AWi.blockK fun _ => ?_ | refine KI.go ?_) | ((first | refine AWi.region tabOk ?_ | refine AWi.condK fun _ _ => ?_); simp [-getElem?_pos, z0, z1, z2, hm]) | ((first | refine AWi.ret ?_ | refine AWi.skip ?_ | refine AWi.exit ?_); try simp only [thenP]) | (with_reducible refine BB.go ?_; simp only [blockP, thenP, reduceIte]))
  refine AWi.label ?_
  simp only [thenP]
  repeat (first | (with_reducible first | refine AWi.seqK fun _ => ?_ | refine AWi.blockK fun _ => ?_ | refine KI.go ?_) | ((first | refine AWi.region tabOk ?_ | refine AWi.condK fun _ _ => ?_); simp [-getElem?_pos, z0, z1, z2, hm]) | ((first | refine AWi.ret ?_ | refine AWi.skip ?_ | refine AWi.exit ?_); try simp only [thenP]) | (with_reducible refine BB.go ?_; simp only [blockP, thenP, reduceIte]))
  obtain ⟨A, hA⟩ : ∃ A, A = allR s ps fun _ => true := ⟨_, rfl⟩
  have hbd := allR_in ok
  rw [← hA] at hm hG hbd
  refine AWi.loopK (ι := { x : Int // s.short - 1 ≤ x ∧ x ≤ s.long ∧ ∀ z, x < z → z ≤ s.long → ∃ j, j < 12 ∧ bearB A j z = true }) (fun x n1 t => n ≤ n1 ∧ t.slots 0 = .ptr w 0 0 ∧ t.slots 4 = .d (iD x.1) ∧ ∀ j, j < n → t.mem j = m j) (fun x => (x.1 + 1 - s.short).toNat) ⟨s.long, by omega, Int.le_refl _, fun z h1 h2 => by omega⟩ ?_ ?_
  · exact ⟨by omega, by simp, by simp, fun j hj => rfl⟩
  rintro ⟨x, hx1, hx2, hx3⟩ n1 t ⟨r0, t0, t4, tl⟩ kk
  simp only at t4
  have hm1 : WhAt s ps A w t.mem := (tl w hw).trans hm
  by_cases hlt : s.short ≤ x
  · repeat (first | (with_reducible first | refine AWi.seqK fun _ => ?_ | refine AWi.blockK fun _ => ?_ | refine KI.go ?_) | ((first | refine AWi.region tabOk ?_ | refine AWi.condK fun _ _ => ?_); simp [-getElem?_pos, z0, z1, z2, t0, t4, hm1, hlt]) | ((first | refine AWi.ret ?_ | refine AWi.skip ?_ | refine AWi.exit ?_); try simp only [thenP]) | (with_reducible refine BB.go ?_; simp only [blockP, thenP, reduceIte]))
    refine AWi.loopK (ι := { k : Nat // k ≤ 12 ∧ ∀ j, j < k → bearB A j x = false }) (fun k n2 u => n ≤ n2 ∧ u.slots 0 = .ptr w 0 0 ∧ u.slots 4 = .d (iD x) ∧ u.slots 33 = .agg (spS A) ∧ u.slots 34 = .d (iD k.1) ∧ ∀ j, j < n → u.mem j = m j) (fun k => 12 - k.1) ⟨0, by omega, fun j hj => by omega⟩ ?_ ?_
    · exact ⟨by omega, by simp [t0], by simp [t4], by simp, by simp, tl⟩
    rintro ⟨k, hk, hno⟩ n2 u ⟨q0, u0, u4, u33, u34, ul⟩ kd
    simp only at u34
    have hm2 : WhAt s ps A w u.mem := (ul w hw).trans hm
    have w1 : IntKind.i64.wrap ((k : Int) + 1) = (k : Int) + 1 := wrap64_in (by omega)
    by_cases hk12 : k < 12
    · have hki : (k : Int) < 12 := by omega
      have hat := sp_at A hk12
      have hsl := spS_len A
      have hle : k * 2 + 2 ≤ 24 := by omega
      repeat (first | (with_reducible first | refine AWi.seqK fun _ => ?_ | refine AWi.blockK fun _ => ?_ | refine KI.go ?_) | ((first | refine AWi.region tabOk ?_ | refine AWi.condK fun _ _ => ?_); simp [-getElem?_pos, z0, z1, z2, u0, u4, u33, u34, hki, hat, hsl, hle]) | ((first | refine AWi.ret ?_ | refine AWi.skip ?_ | refine AWi.exit ?_); try simp only [thenP]) | (with_reducible refine BB.go ?_; simp only [blockP, thenP, reduceIte]))
      refine ExecI.callC (bears_w ((hm2.set (by omega)).set (by omega)) hk12 x _ (by omega)) rfl (by simp [calleeS, evList]) ?_
      rintro y n3 m3 ⟨q1, q2, rfl, q3⟩
      have m3r : m3 (n2 + 1 + 1 + 1) = some (.box 23 [.d (iD (A k).1), .d (iD (A k).2)] false) := (q3 _ (by omega)).trans (if_pos rfl)
      have ml3 : ∀ j, j < n → m3 j = m j := fun j hj => (q3 j (by omega)).trans (Eq.trans (by (try dsimp only); repeat (first | rw [setMem_lt (by omega)] | rw [putN_lt (by omega)])) (ul j hj))
      cases hb : bearB A k x with
      | false =>
        simp [-getElem?_pos, z0, z1, z2]
        repeat (first | (with_reducible first | refine AWi.seqK fun _ => ?_ | refine AWi.blockK fun _ => ?_ | refine KI.go ?_) | ((first | refine AWi.region tabOk ?_ | refine AWi.condK fun _ _ => ?_); simp [-getElem?_pos, z0, z1, z2, u34, w1]) | ((first | refine AWi.ret ?_ | refine AWi.skip ?_ | refine AWi.exit ?_); try simp only [thenP]) | (with_reducible refine BB.go ?_; simp only [blockP, thenP, reduceIte]))
        refine LI.go ⟨k + 1, hk12, fun j hj => ?_⟩ ⟨by omega, by simp [u0], by simp [u4], by simp [u33], by simp [iD], ml3⟩ (by simp; omega)
        by_cases e : j = k
        · subst e; exact hb
        · exact hno j (by omega)
      | true =>
        have hb' := bearB_iff.1 hb
        have := hbd k
        have w2 : IntKind.i64.wrap ((A k).1 - 1) = (A k).1 - 1 := wrap64_in (by omega)
        simp [-getElem?_pos, z0, z1, z2]
        repeat (first | (with_reducible first | refine AWi.seqK fun _ => ?_ | refine AWi.blockK fun _ => ?_ | refine KI.go ?_) | ((first | refine AWi.region tabOk ?_ | refine AWi.condK fun _ _ => ?_); simp [-getElem?_pos, z0, z1, z2, m3r, w2]) | ((first | refine AWi.ret ?_ | refine AWi.skip ?_ | refine AWi.exit ?_); try simp only [thenP]) | (with_reducible refine BB.go ?_; simp only [blockP, thenP, reduceIte]))
        rw [if_neg (by decide)]
        repeat (first | (with_reducible first | refine AWi.seqK fun _ => ?_ | refine AWi.blockK fun _ => ?_ | refine KI.go ?_) | ((first | refine AWi.region tabOk ?_ | refine AWi.condK fun _ _ => ?_); simp [-getElem?_pos, z0, z1, z2, z0]) | ((first | refine AWi.ret ?_ | refine AWi.skip ?_ | refine AWi.exit ?_); try simp only [thenP]) | (with_reducible refine BB.go ?_; simp only [blockP, thenP, reduceIte]))
        rw [if_neg (by decide)]
        repeat (first | (with_reducible first | refine AWi.seqK fun _ => ?_ | refine AWi.blockK fun _ => ?_ | refine KI.go ?_) | ((first | refine AWi.region tabOk ?_ | refine AWi.condK fun _ _ => ?_); simp [-getElem?_pos, z0, z1, z2, z0]) | ((first | refine AWi.ret ?_ | refine AWi.skip ?_ | refine AWi.exit ?_); try simp only [thenP]) | (with_reducible refine BB.go ?_; simp only [blockP, thenP, reduceIte]))
        have hge := allR_ge ok hlt (j := k) (by rw [← hA]; exact hb)
        rw [← hA] at hge
        refine LI.go ⟨(A k).1 - 1, by omega, by omega, fun z h1 h2 => ?_⟩ ⟨by omega, by simp [u0], by simp, ml3⟩ (by simp; omega)
        by_cases hzx : z ≤ x
        · exact ⟨k, hk12, bearB_iff.2 ⟨by omega, by omega⟩⟩
        · exact hx3 z (by omega) h2
    · obtain rfl : k = 12 := by omega
      have hgap : gapR (betA s ps) ps.length s.long s.short = some x := by
        rw [← hG]
        exact gap_eq ⟨hx2, hlt, hno, hx3⟩
      repeat (first | (with_reducible first | refine AWi.seqK fun _ => ?_ | refine AWi.blockK fun _ => ?_ | refine KI.go ?_) | ((first | refine AWi.region tabOk ?_ | refine AWi.condK fun _ _ => ?_); simp [-getElem?_pos, z0, z1, z2, u0, u4, u33, u34]) | ((first | refine AWi.ret ?_ | refine AWi.skip ?_ | refine AWi.exit ?_); try simp only [thenP]) | (with_reducible refine BB.go ?_; simp only [blockP, thenP, reduceIte]))
      exact ⟨by simp, RI.ret rfl ⟨by omega, by rw [hsame _ hgap]; rfl, fun j hj => ul j hj⟩⟩
  · have hgap : gapR (betA s ps) ps.length s.long s.short = none := by
      rw [← hG]
      exact gap_all fun z h1 h2 => hx3 z (by omega) h2
    repeat (first | (with_reducible first | refine AWi.seqK fun _ => ?_ | refine AWi.blockK fun _ => ?_ | refine KI.go ?_) | ((first | refine AWi.region tabOk ?_ | refine AWi.condK fun _ _ => ?_); simp [-getElem?_pos, z0, z1, z2, t0, t4, hm1, hlt]) | ((first | refine AWi.ret ?_ | refine AWi.skip ?_ | refine AWi.exit ?_); try simp only [thenP]) | (with_reducible refine BB.go ?_; simp only [blockP, thenP, reduceIte]))
    exact ⟨by simp, RI.ret rfl ⟨by omega, by rw [hsame _ hgap]; rfl, fun j hj => tl j hj⟩⟩
theorem gap_x (s : RS) (ps : List Int) (hl : ps.length ≤ 1000000) (n : Nat) (m : Mem) :
    CWp Try.prog 20 [.d (stoD s), .d (intL ps)] n m fun y n' m' => toD4 y = some (.tup [iD (gapV s ps), iD (gapE s ps)]) ∧ ∀ j, j < n → m' j = m j := by
  by_cases h0 : stoE s ps = 0
  · have ok := stoE_ok.1 h0
    have hE : gapE s ps = if gapI s ps < 0 then 5 else 0 := by rw [gapE, if_pos h0]
    have hV : gapV s ps = if gapI s ps < 0 then 0 else gapI s ps := by
      rw [gapV, hE]
      split <;> simp
    refine cwpK tabOk Try.func20 rfl rfl (show 2 ≤ _ by decide) rfl fun _ => ?_; simp only [Try.ntmps20]
    repeat (first | (with_reducible first | refine AWi.seqK fun _ => ?_ | refine AWi.blockK fun _ => ?_ | refine KI.go ?_) | ((first | refine AWi.region tabOk ?_ | refine AWi.condK fun _ _ => ?_); simp [-getElem?_pos, z0, z1, z2, z0]) | ((first | refine AWi.ret ?_ | refine AWi.skip ?_ | refine AWi.exit ?_); try simp only [thenP]) | (with_reducible refine BB.go ?_; simp only [blockP, thenP, reduceIte]))
    refine ExecI.callC (check_w s ps hl _ _) rfl (by simp [calleeS, evList]) ?_
    rintro y n1 m1 ⟨q1, q2, q3⟩
    rw [whP, if_pos h0] at q2
    obtain ⟨w, q4, q5, rfl, hw⟩ := q2
    simp
    repeat (first | (with_reducible first | refine AWi.seqK fun _ => ?_ | refine AWi.blockK fun _ => ?_ | refine KI.go ?_) | ((first | refine AWi.region tabOk ?_ | refine AWi.condK fun _ _ => ?_); simp [-getElem?_pos, z0, z1, z2, z0]) | ((first | refine AWi.ret ?_ | refine AWi.skip ?_ | refine AWi.exit ?_); try simp only [thenP]) | (with_reducible refine BB.go ?_; simp only [blockP, thenP, reduceIte]))
    refine ExecI.callC (gap_w ok hw _ (by omega)) rfl (by simp [calleeS, evList]) ?_
    rintro y n2 m2 ⟨q6, rfl, q7⟩
    have hlow : ∀ j, j < n → m2 j = m j := fun j hj => (q7 j (by omega)).trans ((q3 j (by omega)).trans (by (try dsimp only); repeat (first | rw [setMem_lt (by omega)] | rw [putN_lt (by omega)])))
    cases hg : gapR (betA s ps) ps.length s.long s.short with
    | none =>
      have hi : gapI s ps = -1 := by rw [gapI, hg]
      rw [hi, if_pos (by decide)] at hE hV
      simp [gapV2, hg]
      repeat (first | (with_reducible first | refine AWi.seqK fun _ => ?_ | refine AWi.blockK fun _ => ?_ | refine KI.go ?_) | ((first | refine AWi.region tabOk ?_ | refine AWi.condK fun _ _ => ?_); simp [-getElem?_pos, z0, z1, z2, z0]) | ((first | refine AWi.ret ?_ | refine AWi.skip ?_ | refine AWi.exit ?_); try simp only [thenP]) | (with_reducible refine BB.go ?_; simp only [blockP, thenP, reduceIte]))
      exact RI.ret rfl ⟨by rw [hE, hV]; rfl, hlow⟩
    | some x =>
      have hi : gapI s ps = x := by rw [gapI, hg]
      have := (gap_some hg).ge
      have := ok.g.s1
      rw [hi, if_neg (by omega)] at hE hV
      simp [gapV2, hg]
      repeat (first | (with_reducible first | refine AWi.seqK fun _ => ?_ | refine AWi.blockK fun _ => ?_ | refine KI.go ?_) | ((first | refine AWi.region tabOk ?_ | refine AWi.condK fun _ _ => ?_); simp [-getElem?_pos, z0, z1, z2, z0]) | ((first | refine AWi.ret ?_ | refine AWi.skip ?_ | refine AWi.exit ?_); try simp only [thenP]) | (with_reducible refine BB.go ?_; simp only [blockP, thenP, reduceIte]))
      exact RI.ret rfl ⟨by rw [hE, hV]; rfl, hlow⟩
  · have hE : gapE s ps = stoE s ps := by rw [gapE, if_neg h0]
    have hV : gapV s ps = 0 := by rw [gapV, hE, if_neg h0]
    refine cwpK tabOk Try.func20 rfl rfl (show 2 ≤ _ by decide) rfl fun _ => ?_; simp only [Try.ntmps20]
    repeat (first | (with_reducible first | refine AWi.seqK fun _ => ?_ | refine AWi.blockK fun _ => ?_ | refine KI.go ?_) | ((first | refine AWi.region tabOk ?_ | refine AWi.condK fun _ _ => ?_); simp [-getElem?_pos, z0, z1, z2, z0]) | ((first | refine AWi.ret ?_ | refine AWi.skip ?_ | refine AWi.exit ?_); try simp only [thenP]) | (with_reducible refine BB.go ?_; simp only [blockP, thenP, reduceIte]))
    refine ExecI.callC (check_w s ps hl _ _) rfl (by simp [calleeS, evList]) ?_
    rintro y n1 m1 ⟨q1, q2, q3⟩
    rw [whP, if_neg h0] at q2
    subst q2
    have hlow : ∀ j, j < n → m1 j = m j := fun j hj => (q3 j (by omega)).trans (by (try dsimp only); repeat (first | rw [setMem_lt (by omega)] | rw [putN_lt (by omega)]))
    simp
    repeat (first | (with_reducible first | refine AWi.seqK fun _ => ?_ | refine AWi.blockK fun _ => ?_ | refine KI.go ?_) | ((first | refine AWi.region tabOk ?_ | refine AWi.condK fun _ _ => ?_); simp [-getElem?_pos, z0, z1, z2, h0]) | ((first | refine AWi.ret ?_ | refine AWi.skip ?_ | refine AWi.exit ?_); try simp only [thenP]) | (with_reducible refine BB.go ?_; simp only [blockP, thenP, reduceIte]))
    exact RI.ret rfl ⟨by rw [hE, hV]; rfl, hlow⟩
theorem gap_c (s : RS) (ps : List Int) (hl : ps.length ≤ 1000000) : ACall Try.prog 20 [stoD s, intL ps] (.tup [iD (gapV s ps), iD (gapE s ps)]) :=
  ACall.ofR (RCall.of4 (n0 := 0) fun n _ => (gap_x s ps hl n _).mono fun _ _ _ h => h)
end Go.Proofs.Ytdkneonokbakjaa.Eng

namespace Go.Proofs.Ytdkneonokbakjaa
open Go.RowKit
section
variable {P : Program}
theorem run_copy_wide (w : World) (dT sT ty elem : TypeId) (size g n dCap : Nat) (a : Addr) (sCap : Nat) (cur : Array Value) (t : TypeId) (cs : List Value)
    (hu : P.underlying dT = some (.slice elem)) (hs : (P.info? elem).map (·.size) = some size)
    (hg : w.heap[g]? = some (.cells cur t (0, 0))) (hn : cs.length = n * size)
    (hsrc : ∀ j v, cs[j]? = some v → w.cell? (a.add j) = some v) (hfit : cs.length ≤ cur.size) (h1 : ∀ v ∈ cs, v.oneCell' = true) :
    (Builtin.copy_ #[dT, sT] ty #[.slice (some ⟨g, 0, none⟩) n dCap, .slice (some a) n sCap]).run P w =
      .ok (goInt n) (w.setRow g (cs ++ cur.toList.drop cs.length).toArray) := by
  have hl := run_loadCells_list (P := P) w a cs hsrc
  have hst := run_storeCells_at P g 0 t cs 0 cur w hg (by simpa using hfit) h1
  simp only [Nat.zero_add, List.take_zero, List.nil_append] at hst
  cases hq : P.info? elem with
  | none => simp [hq] at hs
  | some i =>
    have hi : i.size = size := by simpa [hq] using hs
    have hm : Nat.min n n = n := Nat.min_self n
    simp [Builtin.copy_, run_underlying hu, Builtin.lenOf, Builtin.firstCells, sizeOf, typeInfo, hq, hi, hm, ← hn, hl, hst]
theorem run_copy_empty (w : World) (dT sT ty elem : TypeId) (size g dCap c : Nat) (hu : P.underlying dT = some (.slice elem)) (hs : (P.info? elem).map (·.size) = some size) :
    (Builtin.copy_ #[dT, sT] ty #[.slice (some ⟨g, 0, none⟩) 0 dCap, .slice none 0 c]).run P w = .ok (goInt 0) w := by
  cases hq : P.info? elem with
  | none => simp [hq] at hs
  | some i => simp [Builtin.copy_, run_underlying hu, Builtin.lenOf, Builtin.firstCells, sizeOf, typeInfo, hq, storeCells]
end
end Go.Proofs.Ytdkneonokbakjaa

namespace Go.Proofs.Ytdkneonokbakjaa.Eng
open Go.RowKit
variable {P : Program} {T : Tab} {r : Option Nat} {ns n : Nat} {s : St}
theorem setMem_id {m : Mem} {i : Nat} {b : Option Blk} (h : m i = b) : setMem m i b = m := by
  funext j
  unfold setMem
  split
  · rename_i e; rw [e, h]
  · rfl
theorem stepI_copy1 (hT : TabOk P T) {o : Oper} {x y : Operand} {t t' e ty : TypeId} {i ie : TI} (ho : o.op = .call { callee := .builtin .copy, args := #[x, y], argTypes := #[t, t'] }) (hi : T t = some i) (hk : i.kind = .slice e) (hie : T e = some ie) (h1 : ie.size = 1) {id k : Nat} {rows rows0 : List (List Dat)} (hl : rows.length = k) (hl0 : rows0.length = k) (hr1 : ∀ q ∈ rows, q.length = 1)
    (hx : opd ns s x = some (.own id k 1)) (hm : s.mem id = some (.row ty 1 rows0 false)) (hy : opd ns s y = some (.d (.list rows))) :
    StepI P r ns n s o fun n' s' => n' = n ∧ s' = ⟨setSlot s.slots o.dst (.d (.val (.int .i64 k))), setMem s.mem id (some (.row ty 1 rows false))⟩ := by
  intro W0 R0 B E a w hin h hd K Q hK
  refine oper_in (fun c e => by rw [ho] at e; cases e) ?_
  have hu := slice_und (hT t i hi) hk
  have hsz : (P.info? e).map (·.size) = some 1 := by
    obtain ⟨inf, z, a1, a2, -⟩ := (hT e ie hie).info
    rw [a1, ← h1, ← a2]; rfl
  obtain ⟨u, hu'⟩ : ∃ u, a.eval x = u := ⟨_, rfl⟩
  obtain ⟨v, hv'⟩ : ∃ v, a.eval y = v := ⟨_, rfl⟩
  have hrx := h.opd hx
  have hry := h.opd hy
  rw [hu'] at hrx
  rw [hv'] at hry
  subst hl
  cases hrx with
  | own _ _ _ hdm hz =>
  cases hry with
  | d _ _ hry =>
  cases hry with
  | list _ A c f q1 q2 q3 q4 q5 =>
  have hro : ¬ E.ro (E.home id).blk := fun k => by have := (h.frz id _ hm).2 k; cases this
  cases h.mem id _ hm with
  | row _ _ _ _ cur g1 g2 g3 g4 g5 g6 g7 g8 =>
  cases hrow : rows with
  | nil =>
    subst hrow
    obtain rfl : rows0 = [] := List.length_eq_zero_iff.1 hl0
    have hrun : (Builtin.copy_ #[t, t'] o.type #[.slice (some ⟨(E.home id).blk, 0, none⟩) 0 (E.home id).cap, .slice A 0 c]).run P w = .ok (goInt 0) w := by
      cases A with
      | none => exact run_copy_empty w t t' o.type e 1 (E.home id).blk (E.home id).cap c hu hsz
      | some ad =>
        have := run_copy_wide w t t' o.type e 1 (E.home id).blk 0 (E.home id).cap ad c cur ty [] hu hsz g1 (by simp) (fun j v h => by simp at h) (by simp) (fun v h => by cases h)
        rw [this]
        have e1 : (([] : List Value) ++ cur.toList.drop ([] : List Value).length).toArray = cur := by simp
        rw [e1, setRow_self _ _ _ _ _ g1]; rfl
    have he : (execOp a.eval o).run P w = .ok (.value (goInt 0)) w := by
      simp only [execOp, ho, resolve, invoke, builtin, Sem.run_bind, Sem.run_pure, Result.andThen_ok, List.map_toArray, List.map_cons, List.map_nil, hu', hv', List.length_nil, hrun]
    unfold Oper.wp
    rw [he]
    refine hK n _ E _ _ ⟨rfl, ?_⟩ (h.put hd (rep_val (u := goInt 0) rfl))
    rw [setMem_id hm]
    rfl
  | cons r0 rest =>
    have hpos : 0 < rows.length := by rw [hrow]; simp
    obtain ⟨b, off, esz, rfl, hb, hz1, hcell⟩ := q4 hpos
    obtain rfl : esz = 1 := by rw [← hz1 r0 (by rw [hrow]; simp), hr1 r0 (by rw [hrow]; simp)]
    let cs : List Value := (List.range rows.length).map fun i => f i 0
    have hcl : cs.length = rows.length := by simp [cs]
    have hcj : ∀ (j : Nat) v, cs[j]? = some v → j < rows.length ∧ v = f j 0 := fun j v hv => by
      simp only [cs, List.getElem?_map, Option.map_eq_some_iff] at hv
      obtain ⟨q, hq, rfl⟩ := hv
      obtain ⟨hq1, hq2⟩ := List.getElem?_eq_some_iff.1 hq
      simp at hq1 hq2
      subst hq2
      exact ⟨hq1, rfl⟩
    have hrep : ∀ (j : Nat) (hj : j < rows.length), ∃ d, rows[j] = [d] ∧ RepD E.ro w d (f j 0) ∧ d.one = true := fun j hj => by
      have h2 := hr1 rows[j] (List.getElem_mem hj)
      obtain ⟨d, hd2⟩ := List.length_eq_one_iff.1 h2
      exact ⟨d, hd2, q5 j 0 rows[j] d (List.getElem?_eq_getElem hj) (by rw [hd2]; rfl), q3 rows[j] (List.getElem_mem hj) d (by rw [hd2]; simp)⟩
    have hcap : rows.length ≤ cur.size := by rw [g3, ← hl0]; omega
    have hone : ∀ v ∈ cs, v.oneCell' = true := fun v hv => by
      obtain ⟨j, hj⟩ := List.mem_iff_getElem?.1 hv
      obtain ⟨h3, rfl⟩ := hcj j v hj
      obtain ⟨d, -, h4, h5⟩ := hrep j h3
      exact h4.one h5
    have hrun := run_copy_wide (P := P) w t t' o.type e 1 (E.home id).blk rows.length (E.home id).cap ⟨b, off, none⟩ c cur ty cs hu hsz g1 (by rw [hcl, Nat.mul_one]) (fun j v hv => by
      obtain ⟨h3, rfl⟩ := hcj j v hv
      have := hcell j 0 h3 (by omega)
      rw [Nat.mul_one, Nat.add_zero] at this
      by_cases hj0 : j = 0
      · subst hj0; simpa [Addr.add] using this
      · simpa [Addr.add, hj0] using this) (by rw [hcl]; exact hcap) hone
    have he : (execOp a.eval o).run P w = .ok (.value (goInt rows.length)) (w.setRow (E.home id).blk (cs ++ cur.toList.drop cs.length).toArray) := by
      simp only [execOp, ho, resolve, invoke, builtin, Sem.run_bind, Sem.run_pure, Result.andThen_ok, List.map_toArray, List.map_cons, List.map_nil, hu', hv', hrun]
    have hw : ∀ b, E.ro b → (w.setRow (E.home id).blk (cs ++ cur.toList.drop cs.length).toArray).heap[b]? = w.heap[b]? := fun b hb => setRow_other _ _ _ _ (fun e => hro (e ▸ hb))
    have h6 : Sim W0 R0 ns (· < n) ⟨s.slots, setMem s.mem id (some (.row ty 1 rows false))⟩ E a (w.setRow (E.home id).blk (cs ++ cur.toList.drop cs.length).toArray) :=
      h.write hm rfl rfl (grown_setRow _ _ _) (.row ty 1 rows false _ (setRow_heap _ _ _ _ _ _ g1) g2 (by simp; omega) (by rw [← hl0]; exact g4) g5 hr1 q3 fun i j q c v hq hc hv => by
        have hi2 := (List.getElem?_eq_some_iff.1 hq).1
        have hj0 : j = 0 := by
          have := (List.getElem?_eq_some_iff.1 hc).1
          rw [hr1 q (List.mem_of_getElem? hq)] at this
          omega
        subst hj0
        have h7 := q5 i 0 q c hq hc
        rw [Nat.mul_one, Nat.add_zero, List.getElem?_toArray, List.getElem?_append_left (by rw [hcl]; exact hi2)] at hv
        obtain ⟨-, rfl⟩ := hcj i v hv
        exact h7.keep (fun _ h => h) hw)
    unfold Oper.wp
    rw [he]
    exact hK n _ E _ _ ⟨rfl, rfl⟩ (h6.put hd (rep_val rfl))
theorem ExecS.copy1 (hT : TabOk P T) {ops : Array Oper} {o : Oper} {lo : List Oper} {Q : Nat → St → Prop} {x y : Operand} {c : Call} {t t' e ty : TypeId} {i ie : TI} (ho : o.op = .call c) (hc1 : c.callee = .builtin .copy) (hc2 : c.args.toList = [x, y]) (hc3 : c.argTypes.toList = [t, t']) (hg : guardS ops ns s o = some true) (hi : T t = some i) (hk : i.kind = .slice e) (hie : T e = some ie) (h1 : ie.size = 1) {id k : Nat} {rows rows0 : List (List Dat)} (hl : rows.length = k) (hl0 : rows0.length = k) (hr1 : ∀ q ∈ rows, q.length = 1)
    (hx : opd ns s x = some (.own id k 1)) (hm : s.mem id = some (.row ty 1 rows0 false)) (hy : opd ns s y = some (.d (.list rows)))
    (h : ExecS P r ns ops n lo ⟨setSlot s.slots o.dst (.d (.val (.int .i64 k))), setMem s.mem id (some (.row ty 1 rows false))⟩ Q) : ExecS P r ns ops n (o :: lo) s Q :=
  ⟨hg, _, stepI_copy1 hT (by rw [call_eq hc1 hc2 hc3] at ho; exact ho) hi hk hie h1 hl hl0 hr1 hx hm hy, fun n' s' ⟨e1, e2⟩ => by rw [e1, e2]; exact h⟩
end Go.Proofs.Ytdkneonokbakjaa.Eng

namespace Go.Proofs.Ytdkneonokbakjaa.Eng
open Go.RowKit
variable {P : Program} {T : Tab} {r : Option Nat} {ns n : Nat} {s : St}
theorem stepI_copyZ (hT : TabOk P T) {o : Oper} {x y : Operand} {t t' e ty : TypeId} {i ie : TI} (ho : o.op = .call { callee := .builtin .copy, args := #[x, y], argTypes := #[t, t'] }) (hi : T t = some i) (hk : i.kind = .slice e) (hie : T e = some ie) {z : Nat} (hz0 : 0 < z) (h1 : ie.size = z) {id k : Nat} {rows rows0 : List (List Dat)} (hl : rows.length = k) (hl0 : rows0.length = k) (hr1 : ∀ q ∈ rows, q.length = z)
    (hx : opd ns s x = some (.own id k z)) (hm : s.mem id = some (.row ty z rows0 false)) (hy : opd ns s y = some (.d (.list rows))) :
    StepI P r ns n s o fun n' s' => n' = n ∧ s' = ⟨setSlot s.slots o.dst (.d (.val (.int .i64 k))), setMem s.mem id (some (.row ty z rows false))⟩ := by
  intro W0 R0 B E a w hin h hd K Q hK
  refine oper_in (fun c e => by rw [ho] at e; cases e) ?_
  have hu := slice_und (hT t i hi) hk
  have hsz : (P.info? e).map (·.size) = some z := by
    obtain ⟨inf, zv, a1, a2, -⟩ := (hT e ie hie).info
    rw [a1, ← h1, ← a2]; rfl
  obtain ⟨u, hu'⟩ : ∃ u, a.eval x = u := ⟨_, rfl⟩
  obtain ⟨v, hv'⟩ : ∃ v, a.eval y = v := ⟨_, rfl⟩
  have hrx := h.opd hx
  have hry := h.opd hy
  rw [hu'] at hrx
  rw [hv'] at hry
  subst hl
  cases hrx with
  | own _ _ _ hdm hzz =>
  cases hry with
  | d _ _ hry =>
  cases hry with
  | list _ A c f q1 q2 q3 q4 q5 =>
  have hro : ¬ E.ro (E.home id).blk := fun k => by have := (h.frz id _ hm).2 k; cases this
  cases h.mem id _ hm with
  | row _ _ _ _ cur g1 g2 g3 g4 g5 g6 g7 g8 =>
  cases hrow : rows with
  | nil =>
    subst hrow
    obtain rfl : rows0 = [] := List.length_eq_zero_iff.1 hl0
    have hrun : (Builtin.copy_ #[t, t'] o.type #[.slice (some ⟨(E.home id).blk, 0, none⟩) 0 (E.home id).cap, .slice A 0 c]).run P w = .ok (goInt 0) w := by
      cases A with
      | none => exact run_copy_empty w t t' o.type e z (E.home id).blk (E.home id).cap c hu hsz
      | some ad =>
        have := run_copy_wide w t t' o.type e z (E.home id).blk 0 (E.home id).cap ad c cur ty [] hu hsz g1 (by simp) (fun j v h => by simp at h) (by simp) (fun v h => by cases h)
        rw [this]
        have e1 : (([] : List Value) ++ cur.toList.drop ([] : List Value).length).toArray = cur := by simp
        rw [e1, setRow_self _ _ _ _ _ g1]; rfl
    have he : (execOp a.eval o).run P w = .ok (.value (goInt 0)) w := by
      simp only [execOp, ho, resolve, invoke, builtin, Sem.run_bind, Sem.run_pure, Result.andThen_ok, List.map_toArray, List.map_cons, List.map_nil, hu', hv', List.length_nil, hrun]
    unfold Oper.wp
    rw [he]
    refine hK n _ E _ _ ⟨rfl, ?_⟩ (h.put hd (rep_val (u := goInt 0) rfl))
    rw [setMem_id hm]
    rfl
  | cons r0 rest =>
    have hpos : 0 < rows.length := by rw [hrow]; simp
    obtain ⟨b, off, esz, rfl, hb, hz1, hcell⟩ := q4 hpos
    obtain rfl : z = esz := by rw [← hz1 r0 (by rw [hrow]; simp), hr1 r0 (by rw [hrow]; simp)]
    let cs : List Value := (List.range (rows.length * z)).map fun i => f (i / z) (i % z)
    have hcl : cs.length = rows.length * z := by simp [cs]
    have hcj : ∀ (j : Nat) v, cs[j]? = some v → j < rows.length * z ∧ v = f (j / z) (j % z) := fun j v hv => by
      simp only [cs, List.getElem?_map, Option.map_eq_some_iff] at hv
      obtain ⟨q, hq, rfl⟩ := hv
      obtain ⟨hq1, hq2⟩ := List.getElem?_eq_some_iff.1 hq
      simp at hq1 hq2
      subst hq2
      exact ⟨hq1, rfl⟩
    have hdv : ∀ j, j < rows.length * z → j / z < rows.length := fun j hj => (Nat.div_lt_iff_lt_mul hz0).2 hj
    have hrep : ∀ (j : Nat) (hj : j < rows.length * z), ∃ d, RepD E.ro w d (f (j / z) (j % z)) ∧ d.one = true := fun j hj => by
      have h3 := hdv j hj
      have h2 := hr1 rows[j / z] (List.getElem_mem h3)
      have h4 : j % z < (rows[j / z]).length := by rw [h2]; exact Nat.mod_lt _ hz0
      exact ⟨(rows[j / z])[j % z], q5 (j / z) (j % z) rows[j / z] _ (List.getElem?_eq_getElem h3) (List.getElem?_eq_getElem h4), q3 rows[j / z] (List.getElem_mem h3) _ (List.getElem_mem h4)⟩
    have hcap : rows.length * z ≤ cur.size := by
      rw [g3]
      exact Nat.mul_le_mul_right z (by rw [← hl0]; exact g4)
    have hone : ∀ v ∈ cs, v.oneCell' = true := fun v hv => by
      obtain ⟨j, hj⟩ := List.mem_iff_getElem?.1 hv
      obtain ⟨h3, rfl⟩ := hcj j v hj
      obtain ⟨d, h4, h5⟩ := hrep j h3
      exact h4.one h5
    have hrun := run_copy_wide (P := P) w t t' o.type e z (E.home id).blk rows.length (E.home id).cap ⟨b, off, none⟩ c cur ty cs hu hsz g1 hcl (fun j v hv => by
      obtain ⟨h3, rfl⟩ := hcj j v hv
      have := hcell (j / z) (j % z) (hdv j h3) (Nat.mod_lt _ hz0)
      rw [Nat.add_assoc, Nat.div_add_mod'] at this
      by_cases hj0 : j = 0
      · subst hj0; simpa [Addr.add] using this
      · simpa [Addr.add, hj0] using this) (by rw [hcl]; exact hcap) hone
    have he : (execOp a.eval o).run P w = .ok (.value (goInt rows.length)) (w.setRow (E.home id).blk (cs ++ cur.toList.drop cs.length).toArray) := by
      simp only [execOp, ho, resolve, invoke, builtin, Sem.run_bind, Sem.run_pure, Result.andThen_ok, List.map_toArray, List.map_cons, List.map_nil, hu', hv', hrun]
    have hw : ∀ b, E.ro b → (w.setRow (E.home id).blk (cs ++ cur.toList.drop cs.length).toArray).heap[b]? = w.heap[b]? := fun b hb => setRow_other _ _ _ _ (fun e => hro (e ▸ hb))
    have h6 : Sim W0 R0 ns (· < n) ⟨s.slots, setMem s.mem id (some (.row ty z rows false))⟩ E a (w.setRow (E.home id).blk (cs ++ cur.toList.drop cs.length).toArray) :=
      h.write hm rfl rfl (grown_setRow _ _ _) (.row ty z rows false _ (setRow_heap _ _ _ _ _ _ g1) g2 (by
        have : cs.length ≤ cur.size := by rw [hcl]; exact hcap
        simp only [List.size_toArray, List.length_append, List.length_drop, Array.length_toList]
        omega) (by rw [← hl0]; exact g4) g5 hr1 q3 fun i j q c v hq hc hv => by
        have hi2 := (List.getElem?_eq_some_iff.1 hq).1
        have hjz : j < z := by
          have := (List.getElem?_eq_some_iff.1 hc).1
          rwa [hr1 q (List.mem_of_getElem? hq)] at this
        have hij : i * z + j < rows.length * z := by
          have : (i + 1) * z ≤ rows.length * z := Nat.mul_le_mul_right z hi2
          rw [Nat.add_mul, Nat.one_mul] at this
          omega
        have h7 := q5 i j q c hq hc
        rw [List.getElem?_toArray, List.getElem?_append_left (by rw [hcl]; exact hij)] at hv
        obtain ⟨-, rfl⟩ := hcj _ v hv
        rw [show (i * z + j) / z = i by rw [Nat.mul_comm, Nat.mul_add_div hz0, Nat.div_eq_of_lt hjz, Nat.add_zero], show (i * z + j) % z = j by rw [Nat.mul_comm, Nat.mul_add_mod, Nat.mod_eq_of_lt hjz]]
        exact h7.keep (fun _ h => h) hw)
    unfold Oper.wp
    rw [he]
    exact hK n _ E _ _ ⟨rfl, rfl⟩ (h6.put hd (rep_val rfl))
theorem ExecS.copyZ (hT : TabOk P T) {ops : Array Oper} {o : Oper} {lo : List Oper} {Q : Nat → St → Prop} {x y : Operand} {c : Call} {t t' e ty : TypeId} {i ie : TI} (ho : o.op = .call c) (hc1 : c.callee = .builtin .copy) (hc2 : c.args.toList = [x, y]) (hc3 : c.argTypes.toList = [t, t']) (hg : guardS ops ns s o = some true) (hi : T t = some i) (hk : i.kind = .slice e) (hie : T e = some ie) {z : Nat} (hz0 : 0 < z) (h1 : ie.size = z) {id k : Nat} {rows rows0 : List (List Dat)} (hl : rows.length = k) (hl0 : rows0.length = k) (hr1 : ∀ q ∈ rows, q.length = z)
    (hx : opd ns s x = some (.own id k z)) (hm : s.mem id = some (.row ty z rows0 false)) (hy : opd ns s y = some (.d (.list rows)))
    (h : ExecS P r ns ops n lo ⟨setSlot s.slots o.dst (.d (.val (.int .i64 k))), setMem s.mem id (some (.row ty z rows false))⟩ Q) : ExecS P r ns ops n (o :: lo) s Q :=
  ⟨hg, _, stepI_copyZ hT (by rw [call_eq hc1 hc2 hc3] at ho; exact ho) hi hk hie hz0 h1 hl hl0 hr1 hx hm hy, fun n' s' ⟨e1, e2⟩ => by rw [e1, e2]; exact h⟩
end Go.Proofs.Ytdkneonokbakjaa.Eng

noncomputable section
namespace Go.Proofs.Ytdkneonokbakjaa.Eng
open Go.RowKit
set_option maxRecDepth 100000
set_option maxHeartbeats 8000000
theorem grownL_c (L : List Int) (x : Int) (hl : L.length ≤ 100000) : ACall Try.prog 82 [intL L, iD x] (intL (L ++ [x])) := by
  have b1 : fitsB (L.length + 1) 8 = true := fitsB_small (by omega) (by omega)
  refine acallK tabOk Try.func82 rfl rfl (show 2 ≤ _ by decide) rfl fun _ => ?_; simp only [Try.ntmps82]
  repeat (first | (with_reducible first | refine zq1 fun _ => ?_ | refine zq2 fun _ => ?_ | refine zq3 ?_) | ((first | refine zq4 ?_ | refine zq5 fun _ _ => ?_ | refine zq6 ?_); simp [-getElem?_pos, z0, z1, z2, b1]) | ((first | refine AWp.ret ?_ | refine AWp.skip ?_ | refine AWp.exit ?_); try simp only [thenP]) | (with_reducible refine zq7 ?_; simp only [blockP, thenP, reduceIte]) | with_reducible refine zq8 ?_)
  (first | refine RR.ret ?_ | refine RR.normal ?_); simp [z0]
theorem grownR_c (L : List (Int × Int)) (x : Int × Int) (hl : L.length ≤ 100000) : ACall Try.prog 62 [runsD L, rngD x] (runsD (L ++ [x])) := by
  have b1 : fitsB (L.length + 1) 16 = true := fitsB_small (by omega) (by omega)
  have h2 : (∀ (r : List Dat), r ∈ runRows L → r.length = 2) = True := eq_true fun r hr => by
    obtain ⟨q, -, rfl⟩ := List.mem_map.1 hr
    rfl
  have h3 : runsD (L ++ [x]) = .list (runRows L ++ [[iD x.1, iD x.2]]) := by simp [runRows]
  have htl : List.take L.length (runRows L) = runRows L := List.take_of_length_le (by simp)
  rw [h3]
  refine acallK tabOk Try.func62 rfl rfl (show 2 ≤ _ by decide) rfl fun _ => ?_; simp only [Try.ntmps62]
  repeat (first | (with_reducible first | refine zq1 fun _ => ?_ | refine zq2 fun _ => ?_ | refine zq3 ?_) | ((first | refine zq4 ?_ | refine zq5 fun _ _ => ?_ | refine zq6 ?_); simp [-getElem?_pos, z0, z1, z2, b1, h2, htl]) | ((first | refine AWp.ret ?_ | refine AWp.skip ?_ | refine AWp.exit ?_); try simp only [thenP]) | (with_reducible refine zq7 ?_; simp only [blockP, thenP, reduceIte]) | with_reducible refine zq8 ?_)
  (first | refine RR.ret ?_ | refine RR.normal ?_); simp [h2, htl]
theorem takenL_w (L : List Int) (hl : L.length ≤ 1000000) (n : Nat) (m : Mem) : CWp Try.prog 83 [.d (intL L)] n m fun y _ m' => (∃ id z ty, n ≤ id ∧ y = .own id (iRows L).length z ∧ m' id = some (.row ty z (iRows L) false)) ∧ ∀ j, j < n → m' j = m j := by
  have b1 : 8 * (L.length : Int) ≤ 140737488355328 := by omega
  have b2 : (L.length : Int) ≤ 9223372036854775807 := by omega
  refine cwpK tabOk Try.func83 rfl rfl (show 1 ≤ _ by decide) rfl fun _ => ?_; simp only [Try.ntmps83]
  refine AWi.seqK fun _ => ?_
  refine AWi.region tabOk ?_
  simp [-getElem?_pos, z0, z1, z2]
  with_reducible refine KI.go ?_
  refine AWi.seqK fun _ => ?_
  refine AWi.region tabOk ?_
  simp [-getElem?_pos, z0, z1, z2, b1, b2]
  with_reducible refine KI.go ?_
  refine AWi.seqK fun _ => ?_
  refine AWi.regionS ?_
  refine ExecS.plain tabOk (out := { res := .own (n + 1 + 1 + 1) L.length 1 }) rfl rfl (by simp [-getElem?_pos, z0, z1, z2]) ?_
  refine ExecS.plain tabOk (out := { res := .d (intL L) }) rfl rfl (by simp [-getElem?_pos, z0, z1, z2]) ?_
  refine ExecS.copy1 tabOk (ty := 2) (id := n + 1 + 1 + 1) (k := L.length) (rows := iRows L) (rows0 := List.replicate L.length [.val (.int .i64 0)]) rfl rfl rfl rfl rfl (TB26) rfl (TB2) rfl (by simp [iRows]) (by simp) (by simp [iRows]) (by simp [-getElem?_pos, z0, z1, z2]) (by simp [putS]) (by simp [-getElem?_pos, z0, z1, z2]) ?_
  simp [putS, ExecS]
  with_reducible refine KI.go ?_
  repeat (first | (with_reducible first | refine AWi.seqK fun _ => ?_ | refine AWi.blockK fun _ => ?_ | refine KI.go ?_) | ((first | refine AWi.region tabOk ?_ | refine AWi.condK fun _ _ => ?_ | refine AWi.draws tabOk rfl (by kernel_rfl) (by kernel_rfl) ?_); simp [-getElem?_pos, z0, z1, z2, z0]) | ((first | refine AWi.ret ?_ | refine AWi.skip ?_ | refine AWi.exit ?_); try simp only [thenP]) | (with_reducible refine BB.go ?_; simp only [blockP, thenP, reduceIte]) | (with_reducible refine And.intro (okLog_c (by simp [footOf, guardSlot, slotsOf, idsRead, looks, idsOf, idsOf1, idsWritten, colF]; kernel_rfl)) ?_))
  first
    | exact RI.ret rfl ⟨⟨n + 1 + 1 + 1, 1, 2, by omega, by simp [iRows, retV], by simp⟩, fun j hj => by simp [show ¬ j = n + 1 + 1 + 1 by omega]⟩
    | exact RI.normal rfl ⟨⟨n + 1 + 1 + 1, 1, 2, by omega, by simp [iRows, retV], by simp⟩, fun j hj => by simp [show ¬ j = n + 1 + 1 + 1 by omega]⟩
theorem takenL_c (L : List Int) (hl : L.length ≤ 1000000) : ACall Try.prog 83 [intL L] (intL L) :=
  ACall.ofR (RCall.ofOwn (n0 := 0) fun n _ => takenL_w L hl n _)
theorem takenR_w (L : List (Int × Int)) (hl : L.length ≤ 1000000) (n : Nat) (m : Mem) : CWp Try.prog 63 [.d (runsD L)] n m fun y _ m' => (∃ id z ty, n ≤ id ∧ y = .own id (runRows L).length z ∧ m' id = some (.row ty z (runRows L) false)) ∧ ∀ j, j < n → m' j = m j := by
  have b1 : 16 * (L.length : Int) ≤ 140737488355328 := by omega
  have b2 : (L.length : Int) ≤ 9223372036854775807 := by omega
  refine cwpK tabOk Try.func63 rfl rfl (show 1 ≤ _ by decide) rfl fun _ => ?_; simp only [Try.ntmps63]
  refine AWi.seqK fun _ => ?_
  refine AWi.region tabOk ?_
  simp [-getElem?_pos, z0, z1, z2]
  with_reducible refine KI.go ?_
  refine AWi.seqK fun _ => ?_
  refine AWi.region tabOk ?_
  simp [-getElem?_pos, z0, z1, z2, b1, b2]
  with_reducible refine KI.go ?_
  refine AWi.seqK fun _ => ?_
  refine AWi.regionS ?_
  refine ExecS.plain tabOk (out := { res := .own (n + 1 + 1 + 1) L.length 2 }) rfl rfl (by simp [-getElem?_pos, z0, z1, z2]) ?_
  refine ExecS.plain tabOk (out := { res := .d (runsD L) }) rfl rfl (by simp [-getElem?_pos, z0, z1, z2]) ?_
  refine ExecS.copyZ tabOk (ty := 59) (id := n + 1 + 1 + 1) (k := L.length) (rows := runRows L) (rows0 := List.replicate L.length [.val (.int .i64 0), .val (.int .i64 0)]) rfl rfl rfl rfl rfl (TB36) rfl (TB59) (by decide) rfl (by simp [runRows]) (by simp) (fun q hq => by obtain ⟨z, -, rfl⟩ := List.mem_map.1 hq; rfl) (by simp [-getElem?_pos, z0, z1, z2]) (by simp [putS]) (by simp [-getElem?_pos, z0, z1, z2]) ?_
  simp [putS, ExecS]
  with_reducible refine KI.go ?_
  repeat (first | (with_reducible first | refine AWi.seqK fun _ => ?_ | refine AWi.blockK fun _ => ?_ | refine KI.go ?_) | ((first | refine AWi.region tabOk ?_ | refine AWi.condK fun _ _ => ?_ | refine AWi.draws tabOk rfl (by kernel_rfl) (by kernel_rfl) ?_); simp [-getElem?_pos, z0, z1, z2, z0]) | ((first | refine AWi.ret ?_ | refine AWi.skip ?_ | refine AWi.exit ?_); try simp only [thenP]) | (with_reducible refine BB.go ?_; simp only [blockP, thenP, reduceIte]) | (with_reducible refine And.intro (okLog_c (by simp [footOf, guardSlot, slotsOf, idsRead, looks, idsOf, idsOf1, idsWritten, colF]; kernel_rfl)) ?_))
  first
    | exact RI.ret rfl ⟨⟨n + 1 + 1 + 1, 2, 59, by omega, by simp [runRows, retV], by simp⟩, fun j hj => by simp [show ¬ j = n + 1 + 1 + 1 by omega]⟩
    | exact RI.normal rfl ⟨⟨n + 1 + 1 + 1, 2, 59, by omega, by simp [runRows, retV], by simp⟩, fun j hj => by simp [show ¬ j = n + 1 + 1 + 1 by omega]⟩
theorem takenR_c (L : List (Int × Int)) (hl : L.length ≤ 1000000) : ACall Try.prog 63 [runsD L] (runsD L) :=
  ACall.ofR (RCall.ofOwn (n0 := 0) fun n _ => takenR_w L hl n _)
def lsV : List Int → SV
  | [] => .nilS
  | x :: L => .d (intL (x :: L))
theorem lsV_nil : lsV [] = .nilS := rfl
theorem lsV_cons (x : Int) (L : List Int) : lsV (x :: L) = .d (intL (x :: L)) := rfl
theorem froms_x (l : List (Int × Int)) (hl : l.length ≤ 1000) : ACall Try.prog 65 [runsD l] (intL (l.map (·.1))) := by
  obtain ⟨T, hT0, hTl, hTn, hTe⟩ := grow_fst l
  rw [← hTe]
  have ct := takenL_c (T l.length) (by have := hTl l.length; omega)
  refine acallK tabOk Try.func65 rfl rfl (show 1 ≤ _ by decide) rfl fun _ => ?_; simp only [Try.ntmps65]
  repeat (first | (with_reducible first | refine zq1 fun _ => ?_ | refine zq2 fun _ => ?_ | refine zq3 ?_) | ((first | refine zq4 ?_ | refine zq5 fun _ _ => ?_ | refine zq6 ?_); simp [-getElem?_pos, z0, z1, z2, z0]) | ((first | refine AWp.ret ?_ | refine AWp.skip ?_ | refine AWp.exit ?_); try simp only [thenP]) | (with_reducible refine zq7 ?_; simp only [blockP, thenP, reduceIte]) | with_reducible refine zq8 ?_)
  refine AWp.loopK (ι := { i : Nat // i ≤ l.length }) (n := 0) (fun i => [(3, lsV (T i.1)), (6, .d (runsD l)), (7, .d (iD l.length)), (8, .d (iD i.1))]) (fun i => []) (fun i => l.length - i.1) ⟨0, Nat.zero_le _⟩ [] ?_ ?_
  · refine ⟨by rfl, by simp [lsV_nil, hT0], by simp [or_imp, forall_and, lsV_nil, hT0] <;> (try (intro _hne; simp [_hne])), by decide⟩
  rintro ⟨i, hi⟩ kk
  have w1 : IntKind.i64.wrap ((i : Int) + 1) = (i : Int) + 1 := wrap64_in (by omega)
  have hTi := hTl i
  by_cases hlt : i < l.length
  · have hii : (i : Int) < l.length := by omega
    obtain ⟨⟨x, p⟩, hx⟩ : ∃ r, l[i]? = some r := ⟨_, List.getElem?_eq_getElem hlt⟩
    have cg := grownL_c (T i) x (by omega)
    have hne : lsV (T (i + 1)) = .d (intL (T (i + 1))) := by
      rw [hTn i x p hx]
      cases T i <;> rfl
    rw [← hTn i x p hx] at cg
    obtain hR | ⟨y, o, hR⟩ : T i = [] ∨ ∃ y o, T i = y :: o := by
      cases T i with
      | nil => exact .inl rfl
      | cons y o => exact .inr ⟨y, o, rfl⟩
    · rw [hR, show intL [] = .list [] from rfl] at cg
      repeat (first | (with_reducible first | refine zq1 fun _ => ?_ | refine zq2 fun _ => ?_ | refine zq3 ?_) | ((first | refine zq4 ?_ | refine zq5 fun _ _ => ?_ | refine zq6 ?_); simp [-getElem?_pos, z0, z1, z2, hii, hlt, hx, hR, lsV_nil, lsV_cons]) | ((first | refine AWp.ret ?_ | refine AWp.skip ?_ | refine AWp.exit ?_); try simp only [thenP]) | (with_reducible refine zq7 ?_; simp only [blockP, thenP, reduceIte]) | with_reducible refine zq8 ?_)
      (first | refine Exec0.call [] cg ?_ rfl ?_ ?_ | refine Exec.call [] cg ?_ rfl ?_ ?_); (focus simp [-getElem?_pos, hx]); (focus simp [-getElem?_pos, z0, z1, z2, hx]); simp [-getElem?_pos, z0, z1, z2, hx]
      repeat (first | (with_reducible first | refine zq1 fun _ => ?_ | refine zq2 fun _ => ?_ | refine zq3 ?_) | ((first | refine zq4 ?_ | refine zq5 fun _ _ => ?_ | refine zq6 ?_); simp [-getElem?_pos, z0, z1, z2, w1]) | ((first | refine AWp.ret ?_ | refine AWp.skip ?_ | refine AWp.exit ?_); try simp only [thenP]) | (with_reducible refine zq7 ?_; simp only [blockP, thenP, reduceIte]) | with_reducible refine zq8 ?_)
      refine LL.go ⟨i + 1, hlt⟩ [] ⟨by rfl, by simp [hne], by simp [or_imp, forall_and, hne] <;> (try (intro _hne; simp [_hne])), by decide⟩ ?_
      simp; omega
    · rw [hR] at cg
      repeat (first | (with_reducible first | refine zq1 fun _ => ?_ | refine zq2 fun _ => ?_ | refine zq3 ?_) | ((first | refine zq4 ?_ | refine zq5 fun _ _ => ?_ | refine zq6 ?_); simp [-getElem?_pos, z0, z1, z2, hii, hlt, hx, hR, lsV_nil, lsV_cons]) | ((first | refine AWp.ret ?_ | refine AWp.skip ?_ | refine AWp.exit ?_); try simp only [thenP]) | (with_reducible refine zq7 ?_; simp only [blockP, thenP, reduceIte]) | with_reducible refine zq8 ?_)
      (first | refine Exec0.call [] cg ?_ rfl ?_ ?_ | refine Exec.call [] cg ?_ rfl ?_ ?_); (focus simp [-getElem?_pos, hx]); (focus simp [-getElem?_pos, z0, z1, z2, hx]); simp [-getElem?_pos, z0, z1, z2, hx]
      repeat (first | (with_reducible first | refine zq1 fun _ => ?_ | refine zq2 fun _ => ?_ | refine zq3 ?_) | ((first | refine zq4 ?_ | refine zq5 fun _ _ => ?_ | refine zq6 ?_); simp [-getElem?_pos, z0, z1, z2, w1]) | ((first | refine AWp.ret ?_ | refine AWp.skip ?_ | refine AWp.exit ?_); try simp only [thenP]) | (with_reducible refine zq7 ?_; simp only [blockP, thenP, reduceIte]) | with_reducible refine zq8 ?_)
      refine LL.go ⟨i + 1, hlt⟩ [] ⟨by rfl, by simp [hne], by simp [or_imp, forall_and, hne] <;> (try (intro _hne; simp [_hne])), by decide⟩ ?_
      simp; omega
  · obtain rfl : i = l.length := by omega
    obtain hR | ⟨y, o, hR⟩ : T l.length = [] ∨ ∃ y o, T l.length = y :: o := by
      cases T l.length with
      | nil => exact .inl rfl
      | cons y o => exact .inr ⟨y, o, rfl⟩
    · rw [hR, show intL [] = .list [] from rfl] at ct
      repeat (first | (with_reducible first | refine zq1 fun _ => ?_ | refine zq2 fun _ => ?_ | refine zq3 ?_) | ((first | refine zq4 ?_ | refine zq5 fun _ _ => ?_ | refine zq6 ?_); simp [-getElem?_pos, z0, z1, z2, hlt, hR, lsV_nil, lsV_cons]) | ((first | refine AWp.ret ?_ | refine AWp.skip ?_ | refine AWp.exit ?_); try simp only [thenP]) | (with_reducible refine zq7 ?_; simp only [blockP, thenP, reduceIte]) | with_reducible refine zq8 ?_)
      (first | refine Exec0.call [] ct ?_ rfl ?_ ?_ | refine Exec.call [] ct ?_ rfl ?_ ?_); (focus simp [-getElem?_pos, z0]); (focus simp [-getElem?_pos, z0, z1, z2, z0]); simp [-getElem?_pos, z0, z1, z2, z0]
      repeat (first | (with_reducible first | refine zq1 fun _ => ?_ | refine zq2 fun _ => ?_ | refine zq3 ?_) | ((first | refine zq4 ?_ | refine zq5 fun _ _ => ?_ | refine zq6 ?_); simp [-getElem?_pos, z0, z1, z2, z0]) | ((first | refine AWp.ret ?_ | refine AWp.skip ?_ | refine AWp.exit ?_); try simp only [thenP]) | (with_reducible refine zq7 ?_; simp only [blockP, thenP, reduceIte]) | with_reducible refine zq8 ?_)
      (first | refine RR.ret ?_ | refine RR.normal ?_); simp [hR, iRows]
    · rw [hR] at ct
      repeat (first | (with_reducible first | refine zq1 fun _ => ?_ | refine zq2 fun _ => ?_ | refine zq3 ?_) | ((first | refine zq4 ?_ | refine zq5 fun _ _ => ?_ | refine zq6 ?_); simp [-getElem?_pos, z0, z1, z2, hlt, hR, lsV_nil, lsV_cons]) | ((first | refine AWp.ret ?_ | refine AWp.skip ?_ | refine AWp.exit ?_); try simp only [thenP]) | (with_reducible refine zq7 ?_; simp only [blockP, thenP, reduceIte]) | with_reducible refine zq8 ?_)
      (first | refine Exec0.call [] ct ?_ rfl ?_ ?_ | refine Exec.call [] ct ?_ rfl ?_ ?_); (focus simp [-getElem?_pos, z0]); (focus simp [-getElem?_pos, z0, z1, z2, z0]); simp [-getElem?_pos, z0, z1, z2, z0]
      repeat (first | (with_reducible first | refine zq1 fun _ => ?_ | refine zq2 fun _ => ?_ | refine zq3 ?_) | ((first | refine zq4 ?_ | refine zq5 fun _ _ => ?_ | refine zq6 ?_); simp [-getElem?_pos, z0, z1, z2, z0]) | ((first | refine AWp.ret ?_ | refine AWp.skip ?_ | refine AWp.exit ?_); try simp only [thenP]) | (with_reducible refine zq7 ?_; simp only [blockP, thenP, reduceIte]) | with_reducible refine zq8 ?_)
      (first | refine RR.ret ?_ | refine RR.normal ?_); simp [hR]
end Go.Proofs.Ytdkneonokbakjaa.Eng

noncomputable section
namespace Go.Proofs.Ytdkneonokbakjaa.Eng
open Go.RowKit
set_option maxRecDepth 100000
set_option maxHeartbeats 8000000
def decAt (l : List Int) (i : Nat) : Bool := if i = 0 then true else match l[i - 1]?, l[i]? with
  | some y, some x => decide (x < y)
  | _, _ => true
def lenB (s : RS) (l : List Int) : Bool := (List.range l.length).all (decAt l) && fromZn s.short s.long l
theorem areLengths_c (s : RS) (l : List Int) (hl : l.length ≤ 1000000) : ACall Try.prog 66 [stoD s, intL l] (bD (lenB s l)) := by
  have cf := areFrom_c s.short s.long l hl
  obtain ⟨r, hr⟩ : ∃ r, r = lenB s l := ⟨_, rfl⟩
  rw [← hr]
  refine acallK tabOk Try.func66 rfl rfl (show 2 ≤ _ by decide) rfl fun _ => ?_; simp only [Try.ntmps66]
  repeat (first | (with_reducible first | refine zq1 fun _ => ?_ | refine zq2 fun _ => ?_ | refine zq3 ?_) | ((first | refine zq4 ?_ | refine zq5 fun _ _ => ?_ | refine zq6 ?_); simp [-getElem?_pos, z0, z1, z2, z0]) | ((first | refine AWp.ret ?_ | refine AWp.skip ?_ | refine AWp.exit ?_); try simp only [thenP]) | (with_reducible refine zq7 ?_; simp only [blockP, thenP, reduceIte]) | with_reducible refine zq8 ?_)
  refine AWp.loopK (ι := { i : Nat // i ≤ l.length ∧ (List.range i).all (decAt l) = true }) (n := 1) (fun i => [(1, .d (intL l)), (2, .ptr 0 0 0), (7, .d (intL l)), (8, .d (iD l.length)), (9, .d (iD i.1))]) (fun i => [(0, .box 25 [.d (iD s.long), .d (iD s.short), .d (iD s.off), .d (iD s.lo), .d (iD s.hi)] false)]) (fun i => l.length - i.1) ⟨0, Nat.zero_le _, rfl⟩ [0] ?_ ?_
  · refine ⟨by rfl, by simp [z0], by simp [or_imp, forall_and, z0] <;> (try (intro _hne; simp [_hne])), by decide⟩
  rintro ⟨i, hi, hall⟩ kk
  by_cases hlt : i < l.length
  · have hii : (i : Int) < l.length := by omega
    obtain ⟨x, hx⟩ : ∃ r, l[i]? = some r := ⟨_, List.getElem?_eq_getElem hlt⟩
    cases i with
    | zero =>
      have w10 : IntKind.i64.wrap 1 = 1 := by decide
      repeat (first | (with_reducible first | refine zq1 fun _ => ?_ | refine zq2 fun _ => ?_ | refine zq3 ?_) | ((first | refine zq4 ?_ | refine zq5 fun _ _ => ?_ | refine zq6 ?_); simp [-getElem?_pos, z0, z1, z2, hii, hlt, hx, w10]) | ((first | refine AWp.ret ?_ | refine AWp.skip ?_ | refine AWp.exit ?_); try simp only [thenP]) | (with_reducible refine zq7 ?_; simp only [blockP, thenP, reduceIte]) | with_reducible refine zq8 ?_)
      refine LL.go ⟨0 + 1, hlt, all_succ hall rfl⟩ [0] ⟨by rfl, by simp [], by simp [or_imp, forall_and, ] <;> (try (intro _hne; simp [_hne])), by decide⟩ ?_
      simp; omega
    | succ j =>
      obtain ⟨y, hy⟩ : ∃ r, l[j]? = some r := ⟨_, List.getElem?_eq_getElem (by omega)⟩
      have hd : decAt l (j + 1) = decide (x < y) := by rw [decAt, if_neg (Nat.succ_ne_zero j), Nat.add_sub_cancel, hx, hy]
      have w3 : IntKind.i64.wrap (j : Int) = (j : Int) := wrap64_in (by omega)
      have w5 : IntKind.i64.wrap ((j : Int) + 1 + 1) = (j : Int) + 1 + 1 := wrap64_in (by omega)
      have hq0 : (0 : Int) < (j : Int) + 1 := by omega
      have hqi : (j : Int) + 1 < l.length := by omega
      have hqp : 0 ≤ (j : Int) + 1 := by omega
      have hqt : ((j : Int) + 1).toNat = j + 1 := by omega
      by_cases c3 : y ≤ x
      · have hr' : r = false := by rw [hr, lenB, all_no hlt (hd.trans (decide_eq_false (by omega)))]; rfl
        repeat (first | (with_reducible first | refine zq1 fun _ => ?_ | refine zq2 fun _ => ?_ | refine zq3 ?_) | ((first | refine zq4 ?_ | refine zq5 fun _ _ => ?_ | refine zq6 ?_); simp [-getElem?_pos, z0, z1, z2, hii, hlt, hx, hy, w3, w5, hq0, hqi, hqp, hqt, c3]) | ((first | refine AWp.ret ?_ | refine AWp.skip ?_ | refine AWp.exit ?_); try simp only [thenP]) | (with_reducible refine zq7 ?_; simp only [blockP, thenP, reduceIte]) | with_reducible refine zq8 ?_)
        (first | refine RR.ret ?_ | refine RR.normal ?_); simp [hr']
      · repeat (first | (with_reducible first | refine zq1 fun _ => ?_ | refine zq2 fun _ => ?_ | refine zq3 ?_) | ((first | refine zq4 ?_ | refine zq5 fun _ _ => ?_ | refine zq6 ?_); simp [-getElem?_pos, z0, z1, z2, hii, hlt, hx, hy, w3, w5, hq0, hqi, hqp, hqt, c3]) | ((first | refine AWp.ret ?_ | refine AWp.skip ?_ | refine AWp.exit ?_); try simp only [thenP]) | (with_reducible refine zq7 ?_; simp only [blockP, thenP, reduceIte]) | with_reducible refine zq8 ?_)
        refine LL.go ⟨j + 1 + 1, hlt, all_succ hall (hd.trans (decide_eq_true (by omega)))⟩ [0] ⟨by rfl, by simp [], by simp [or_imp, forall_and, ] <;> (try (intro _hne; simp [_hne])), by decide⟩ ?_
        simp; omega
  · obtain rfl : i = l.length := by omega
    have hr' : fromZn s.short s.long l = r := by rw [hr, lenB, hall, Bool.true_and]
    rw [hr'] at cf
    repeat (first | (with_reducible first | refine zq1 fun _ => ?_ | refine zq2 fun _ => ?_ | refine zq3 ?_) | ((first | refine zq4 ?_ | refine zq5 fun _ _ => ?_ | refine zq6 ?_); simp [-getElem?_pos, z0, z1, z2, hlt]) | ((first | refine AWp.ret ?_ | refine AWp.skip ?_ | refine AWp.exit ?_); try simp only [thenP]) | (with_reducible refine zq7 ?_; simp only [blockP, thenP, reduceIte]) | with_reducible refine zq8 ?_)
    (first | refine Exec0.call [] cf ?_ rfl ?_ ?_ | refine Exec.call [] cf ?_ rfl ?_ ?_); (focus simp [-getElem?_pos, z0]); (focus simp [-getElem?_pos, z0, z1, z2, z0]); simp [-getElem?_pos, z0, z1, z2, z0]
    repeat (first | (with_reducible first | refine zq1 fun _ => ?_ | refine zq2 fun _ => ?_ | refine zq3 ?_) | ((first | refine zq4 ?_ | refine zq5 fun _ _ => ?_ | refine zq6 ?_); simp [-getElem?_pos, z0, z1, z2, z0]) | ((first | refine AWp.ret ?_ | refine AWp.skip ?_ | refine AWp.exit ?_); try simp only [thenP]) | (with_reducible refine zq7 ?_; simp only [blockP, thenP, reduceIte]) | with_reducible refine zq8 ?_)
    (first | refine RR.ret ?_ | refine RR.normal ?_); simp [z0]
abbrev lastF (n : Nat) : SV := .fn 76 [] [.ptr (n + 1) 0 0, .ptr n 0 0]
abbrev lastM (m : Mem) (w : Nat) (l : List (Int × Int)) (n : Nat) : Mem := setMem (setMem m n (some (.box 76 [.ptr w 0 0] false))) (n + 1) (some (.box 36 [.d (runsD l)] false))
theorem lasts_w (w : Nat) (l : List (Int × Int)) (n : Nat) (m : Mem) : CWp Try.prog 57 [.ptr w 0 0, .d (runsD l)] n m fun y n' m' => lastF n = y ∧ n + 1 + 1 + 1 + 1 + 1 = n' ∧ lastM m w l n = m' := by
  refine cwpK tabOk Try.func57 rfl rfl (show 2 ≤ _ by decide) rfl fun _ => ?_; simp only [Try.ntmps57]
  repeat (first | (with_reducible first | refine AWi.seqK fun _ => ?_ | refine AWi.blockK fun _ => ?_ | refine KI.go ?_) | ((first | refine AWi.region tabOk ?_ | refine AWi.condK fun _ _ => ?_); simp [-getElem?_pos, z0, z1, z2, z0]) | ((first | refine AWi.ret ?_ | refine AWi.skip ?_ | refine AWi.exit ?_); try simp only [thenP]) | (with_reducible refine BB.go ?_; simp only [blockP, thenP, reduceIte]))
  exact RI.ret rfl ⟨rfl, rfl, rfl⟩
def lastV (s : RS) (l : List (Int × Int)) (i : Nat) : List SV := [.agg [.d (iD (l.getD i (0, 0)).1), .d (iD (l.getD i (0, 0)).2)], .d (iD (endR s l i))]
theorem lasts1_w {s : RS} {ps : List Int} {A : Rgs} (hg : GoodR s) (w k0 k1 : Nat) (l : List (Int × Int)) (hl : l.length ≤ 20) (hin : ∀ (i : Nat) (x p : Int), l[i]? = some (x, p) → 0 ≤ x ∧ x ≤ 100000) :
    Iterates Try.prog 76 (fun Y => [Y, .ptr k1 0 0, .ptr k0 0 0]) ((List.range l.length).map (lastV s l)) fun m =>
      WhAt s ps A w m ∧ (∃ z, m k0 = some (.box 76 [.ptr w 0 0] z)) ∧ (∃ z, m k1 = some (.box 36 [.d (runsD l)] z)) := by
  intro Y n0 I J hY hI hJ hk hy n m hn h0
  obtain ⟨-, ⟨z0', hz0⟩, ⟨z1', hz1⟩⟩ := hk _ _ h0
  have lw : w < n0 := Below'.lt (hI 0) h0 fun m h e => by have := (hk _ _ h).1; unfold WhAt at this; rw [e] at this; cases this
  have l0 : k0 < n0 := Below'.lt (hI 0) h0 fun m h e => by obtain ⟨z, h1⟩ := (hk _ _ h).2.1; rw [e] at h1; cases h1
  have l1 : k1 < n0 := Below'.lt (hI 0) h0 fun m h e => by obtain ⟨z, h1⟩ := (hk _ _ h).2.2; rw [e] at h1; cases h1
  refine cwpK tabOk Try.func76 rfl rfl (show 3 ≤ _ by decide) rfl fun _ => ?_; simp only [Try.ntmps76]
  repeat (first | (with_reducible first | refine AWi.seqK fun _ => ?_ | refine AWi.blockK fun _ => ?_ | refine KI.go ?_) | ((first | refine AWi.region tabOk ?_ | refine AWi.condK fun _ _ => ?_); simp [-getElem?_pos, z0, z1, z2, hz1]) | ((first | refine AWi.ret ?_ | refine AWi.skip ?_ | refine AWi.exit ?_); try simp only [thenP]) | (with_reducible refine BB.go ?_; simp only [blockP, thenP, reduceIte]))
  refine AWi.loopK (fun i n1 t => Keeps n0 n m n1 t.mem ∧ I i t.mem ∧ t.slots 0 = Y ∧ t.slots 1 = .ptr k1 0 0 ∧ t.slots 2 = .ptr k0 0 0 ∧ t.slots 7 = .d (runsD l) ∧ t.slots 8 = .d (iD l.length) ∧ t.slots 9 = .d (iD (i : Nat)) ∧ i ≤ l.length) (fun i => l.length - i) 0 ?_ ?_
  · exact ⟨Keeps.more (by omega), h0, by simp, by simp, by simp, by simp, by simp, by simp, by omega⟩
  rintro i n1 t ⟨hkp, hi, t0, t1, t2, t7, t8, t9, hil⟩ kk
  have w1 : IntKind.i64.wrap ((i : Int) + 1) = (i : Int) + 1 := wrap64_in (by omega)
  obtain ⟨hw, ⟨za, ha⟩, ⟨zb, hb⟩⟩ := hk _ _ hi
  have hn1 : n0 ≤ n1 := Nat.le_trans hn hkp.1
  by_cases hlt : i < l.length
  · have hii : (i : Int) < l.length := by omega
    obtain ⟨⟨x, p⟩, hx⟩ : ∃ r, l[i]? = some r := ⟨_, List.getElem?_eq_getElem hlt⟩
    have hget : ((List.range l.length).map (lastV s l))[i]? = some [.agg [.d (iD x), .d (iD p)], .d (iD (endR s l i))] := by
      rw [List.getElem?_map, List.getElem?_range hlt]
      simp [lastV, List.getD_eq_getElem?_getD, hx]
    have o0 : ¬ k0 = n1 + 1 + 1 + 1 + 1 := by omega
    have o1 : ¬ k1 = n1 + 1 + 1 + 1 + 1 := by omega
    have o2 : ¬ w = n1 + 1 + 1 + 1 + 1 := by omega
    have b1 : ((i : Int) + 1).toNat = i + 1 := by omega
    have b2 : (0 : Int) ≤ (i : Int) + 1 := by omega
    by_cases hl1 : i + 1 < l.length
    · have hl1i : (i : Int) + 1 < l.length := by omega
      obtain ⟨⟨y, q⟩, hy1⟩ : ∃ r, l[i + 1]? = some r := ⟨_, List.getElem?_eq_getElem hl1⟩
      have hyb := hin (i + 1) y q hy1
      have he : endR s l i = y + 1 := by rw [endR, hy1]
      have w2 : IntKind.i64.wrap (y + 1) = y + 1 := wrap64_in (by omega)
      rw [he] at hget
      repeat (first | (with_reducible first | refine AWi.seqK fun _ => ?_ | refine AWi.blockK fun _ => ?_ | refine KI.go ?_) | ((first | refine AWi.region tabOk ?_ | refine AWi.condK fun _ _ => ?_); simp [-getElem?_pos, z0, z1, z2, t0, t1, t2, t7, t8, t9, hii, hlt, hx, ha, hb, hw, w1, w2, o0, o1, o2, b1, b2, hl1, hl1i, hy1]) | ((first | refine AWi.ret ?_ | refine AWi.skip ?_ | refine AWi.exit ?_); try simp only [thenP]) | (with_reducible refine BB.go ?_; simp only [blockP, thenP, reduceIte]))
      refine ExecI.callY (Y := Y) (xs := [.agg [.d (iD x), .d (iD p)], .d (iD (y + 1))]) (hy i _ _ _ hget (by omega) (hI i _ _ (fun j hj => by (try dsimp only); repeat (first | rw [setMem_lt (by omega)] | rw [putN_lt (by omega)])) hi)) rfl (by simp [calleeV, evList]) ?_
      rintro y n' m' ⟨hk2, ⟨rfl, h⟩ | ⟨rfl, h⟩⟩
      · simp [-getElem?_pos, z0, z1, z2]
        repeat (first | (with_reducible first | refine AWi.seqK fun _ => ?_ | refine AWi.blockK fun _ => ?_ | refine KI.go ?_) | ((first | refine AWi.region tabOk ?_ | refine AWi.condK fun _ _ => ?_); simp [-getElem?_pos, z0, z1, z2, t9, w1]) | ((first | refine AWi.ret ?_ | refine AWi.skip ?_ | refine AWi.exit ?_); try simp only [thenP]) | (with_reducible refine BB.go ?_; simp only [blockP, thenP, reduceIte]))
        exact LI.go (i + 1) ⟨(hkp.trans ⟨by omega, fun j h1 h2 => by (try dsimp only); repeat (first | rw [setMem_lt (by omega)] | rw [putN_lt (by omega)])⟩).trans (hk2.trans (Keeps.more (by omega))), h, by simp [t0], by simp [t1], by simp [t2], by simp [t7], by simp [t8], by simp [iD], hlt⟩ (by omega)
      · simp [-getElem?_pos, z0, z1, z2]
        repeat (first | (with_reducible first | refine AWi.seqK fun _ => ?_ | refine AWi.blockK fun _ => ?_ | refine KI.go ?_) | ((first | refine AWi.region tabOk ?_ | refine AWi.condK fun _ _ => ?_); simp [-getElem?_pos, z0, z1, z2, z0]) | ((first | refine AWi.ret ?_ | refine AWi.skip ?_ | refine AWi.exit ?_); try simp only [thenP]) | (with_reducible refine BB.go ?_; simp only [blockP, thenP, reduceIte]))
        exact RI.ret rfl ⟨(hkp.trans ⟨by omega, fun j h1 h2 => by (try dsimp only); repeat (first | rw [setMem_lt (by omega)] | rw [putN_lt (by omega)])⟩).trans (hk2.trans (Keeps.more (by omega))), .inr h⟩
    · have hl1i : ¬ (i : Int) + 1 < l.length := by omega
      have he : endR s l i = s.short := by rw [endR, List.getElem?_eq_none (by omega)]
      rw [he] at hget
      repeat (first | (with_reducible first | refine AWi.seqK fun _ => ?_ | refine AWi.blockK fun _ => ?_ | refine KI.go ?_) | ((first | refine AWi.region tabOk ?_ | refine AWi.condK fun _ _ => ?_); simp [-getElem?_pos, z0, z1, z2, t0, t1, t2, t7, t8, t9, hii, hlt, hx, ha, hb, hw, w1, o0, o1, o2, b1, b2, hl1, hl1i]) | ((first | refine AWi.ret ?_ | refine AWi.skip ?_ | refine AWi.exit ?_); try simp only [thenP]) | (with_reducible refine BB.go ?_; simp only [blockP, thenP, reduceIte]))
      refine ExecI.callY (Y := Y) (xs := [.agg [.d (iD x), .d (iD p)], .d (iD (s.short))]) (hy i _ _ _ hget (by omega) (hI i _ _ (fun j hj => by (try dsimp only); repeat (first | rw [setMem_lt (by omega)] | rw [putN_lt (by omega)])) hi)) rfl (by simp [calleeV, evList]) ?_
      rintro y n' m' ⟨hk2, ⟨rfl, h⟩ | ⟨rfl, h⟩⟩
      · simp [-getElem?_pos, z0, z1, z2]
        repeat (first | (with_reducible first | refine AWi.seqK fun _ => ?_ | refine AWi.blockK fun _ => ?_ | refine KI.go ?_) | ((first | refine AWi.region tabOk ?_ | refine AWi.condK fun _ _ => ?_); simp [-getElem?_pos, z0, z1, z2, t9, w1]) | ((first | refine AWi.ret ?_ | refine AWi.skip ?_ | refine AWi.exit ?_); try simp only [thenP]) | (with_reducible refine BB.go ?_; simp only [blockP, thenP, reduceIte]))
        exact LI.go (i + 1) ⟨(hkp.trans ⟨by omega, fun j h1 h2 => by (try dsimp only); repeat (first | rw [setMem_lt (by omega)] | rw [putN_lt (by omega)])⟩).trans (hk2.trans (Keeps.more (by omega))), h, by simp [t0], by simp [t1], by simp [t2], by simp [t7], by simp [t8], by simp [iD], hlt⟩ (by omega)
      · simp [-getElem?_pos, z0, z1, z2]
        repeat (first | (with_reducible first | refine AWi.seqK fun _ => ?_ | refine AWi.blockK fun _ => ?_ | refine KI.go ?_) | ((first | refine AWi.region tabOk ?_ | refine AWi.condK fun _ _ => ?_); simp [-getElem?_pos, z0, z1, z2, z0]) | ((first | refine AWi.ret ?_ | refine AWi.skip ?_ | refine AWi.exit ?_); try simp only [thenP]) | (with_reducible refine BB.go ?_; simp only [blockP, thenP, reduceIte]))
        exact RI.ret rfl ⟨(hkp.trans ⟨by omega, fun j h1 h2 => by (try dsimp only); repeat (first | rw [setMem_lt (by omega)] | rw [putN_lt (by omega)])⟩).trans (hk2.trans (Keeps.more (by omega))), .inr h⟩
  · obtain rfl : i = l.length := by omega
    repeat (first | (with_reducible first | refine AWi.seqK fun _ => ?_ | refine AWi.blockK fun _ => ?_ | refine KI.go ?_) | ((first | refine AWi.region tabOk ?_ | refine AWi.condK fun _ _ => ?_); simp [-getElem?_pos, z0, z1, z2, t8, t9]) | ((first | refine AWi.ret ?_ | refine AWi.skip ?_ | refine AWi.exit ?_); try simp only [thenP]) | (with_reducible refine BB.go ?_; simp only [blockP, thenP, reduceIte]))
    exact RI.normal rfl ⟨hkp.trans (Keeps.more (by omega)), .inl (by rw [List.length_map, List.length_range]; exact hi)⟩
end Go.Proofs.Ytdkneonokbakjaa.Eng

noncomputable section
namespace Go.Proofs.Ytdkneonokbakjaa.Eng
open Go.RowKit
set_option maxRecDepth 100000
set_option maxHeartbeats 16000000
theorem map_fst_get {l : List (Int × Int)} {i : Nat} {x p : Int} (h : l[i]? = some (x, p)) : (l.map (·.1))[i]? = some x := by rw [List.getElem?_map, h]; rfl
theorem lenB_iff {s : RS} {l : List (Int × Int)} : lenB s (l.map (·.1)) = true ↔ (∀ (j : Nat) (x p y q : Int), l[j]? = some (y, q) → l[j + 1]? = some (x, p) → x < y) ∧ ∀ (j : Nat) (x p : Int), l[j]? = some (x, p) → s.short ≤ x ∧ x ≤ s.long := by
  rw [lenB, Bool.and_eq_true]
  constructor
  · rintro ⟨h1, h2⟩
    refine ⟨fun j x p y q hy hx => ?_, fun j x p hx => ?_⟩
    · have := all_at h1 (k := j + 1) (by rw [List.length_map]; exact (List.getElem?_eq_some_iff.1 hx).1)
      rw [decAt, if_neg (Nat.succ_ne_zero j), Nat.add_sub_cancel, map_fst_get hy, map_fst_get hx] at this
      simpa using this
    · have := List.all_eq_true.1 h2 x (List.mem_of_getElem? (map_fst_get hx))
      simpa [inZn] using this
  · rintro ⟨h1, h2⟩
    constructor
    · rw [List.all_eq_true]
      intro i hi
      rw [List.mem_range, List.length_map] at hi
      cases i with
      | zero => rfl
      | succ j =>
        obtain ⟨⟨x, p⟩, hx⟩ : ∃ r, l[j + 1]? = some r := ⟨_, List.getElem?_eq_getElem hi⟩
        obtain ⟨⟨y, q⟩, hy⟩ : ∃ r, l[j]? = some r := ⟨_, List.getElem?_eq_getElem (by omega)⟩
        rw [decAt, if_neg (Nat.succ_ne_zero j), Nat.add_sub_cancel, map_fst_get hy, map_fst_get hx]
        exact decide_eq_true (h1 j x p y q hy hx)
    · rw [fromZn, List.all_eq_true]
      intro x hx
      obtain ⟨⟨x, p⟩, hr, rfl⟩ := List.mem_map.1 hx
      obtain ⟨j, hj⟩ := List.getElem?_of_mem hr
      have := h2 j x p hj
      simp only [inZn, decide_eq_true_eq]
      omega
theorem runs_iff {s : RS} {n : Nat} {l : List (Int × Int)} {x0 p0 : Int} (h0 : l[0]? = some (x0, p0)) : (List.range l.length).all (okRun s n l) = true ↔ x0 = s.long ∧ lenB s (l.map (·.1)) = true ∧ ∀ (j : Nat) (x p : Int), l[j]? = some (x, p) → 0 ≤ p ∧ p < n := by
  rw [lenB_iff]
  constructor
  · intro h
    have hf := all_at h (List.getElem?_eq_some_iff.1 h0).1
    rw [okRun_at h0] at hf
    simp only [if_true, Bool.and_eq_true, decide_eq_true_eq] at hf
    refine ⟨hf.1.1.1, ⟨fun j x p y q hy hx => runs_dec h hy hx, fun j x p hx => ?_⟩, fun j x p hx => ?_⟩
    · have := runs_in h j x p hx; omega
    · have := runs_in h j x p hx; omega
  · rintro ⟨h1, ⟨h2, h3⟩, h4⟩
    rw [List.all_eq_true]
    intro i hi
    rw [List.mem_range] at hi
    obtain ⟨⟨x, p⟩, hx⟩ : ∃ r, l[i]? = some r := ⟨_, List.getElem?_eq_getElem hi⟩
    have e3 := h3 i x p hx
    have e4 := h4 i x p hx
    rw [okRun_at hx, decide_eq_true e3.1, decide_eq_true e4.1, decide_eq_true e4.2]
    cases i with
    | zero =>
      rw [h0] at hx
      cases hx
      simp [h1]
    | succ j =>
      obtain ⟨⟨y, q⟩, hy⟩ : ∃ r, l[j]? = some r := ⟨_, List.getElem?_eq_getElem (by omega)⟩
      rw [if_neg (Nat.succ_ne_zero j), Nat.add_sub_cancel, hy]
      simp [h2 j x p y q hy hx]
theorem bear_ok {s : RS} {ps : List Int} (ok : StoOk s ps) {P : Nat} {t x : Int} (ht : ps[P]? = some t) (h1 : s.short ≤ x) (h2 : x ≤ s.long) : bearB (allR s ps fun _ => true) P x = okAt s t x := by
  rw [bear_bet ok h1, Bool.eq_iff_iff, bearB_iff, betA_at ht]
  exact bet_iff (ok.turn ht).1 h1 h2
theorem rim_bears {s : RS} {ps : List Int} (ok : StoOk s ps) {l : List (Int × Int)} (h : (List.range l.length).all (okRun s ps.length l) = true) {i : Nat} {x p : Int} (hx : l[i]? = some (x, p)) :
    ∃ (P : Nat), p = (P : Int) ∧ P < ps.length ∧ rimOk s ps l i = (bearB (allR s ps fun _ => true) P x && bearB (allR s ps fun _ => true) P (endR s l i)) := by
  obtain ⟨q1, q2, q3, q4⟩ := runs_in h i x p hx
  obtain ⟨P, rfl⟩ := Int.eq_ofNat_of_zero_le q3
  have hP : P < ps.length := by omega
  obtain ⟨t, ht⟩ : ∃ t, ps[P]? = some t := ⟨_, List.getElem?_eq_getElem hP⟩
  have hta : turnAt ps (P : Int) = t := by rw [turnAt, Int.toNat_natCast, List.getD_eq_getElem?_getD, ht]; rfl
  obtain ⟨e1, e2⟩ := end_in ok.g h hx
  refine ⟨P, rfl, hP, ?_⟩
  rw [rimOk, hx]
  simp only [hta]
  rw [bear_ok ok ht q1 q2, bear_ok ok ht e1 (by omega)]
def rnP (s : RS) (ps : List Int) (l : List (Int × Int)) (n n' : Nat) (m' : Mem) (y : SV) : Prop := if cplE s ps l = 0 then ∃ w, n ≤ w ∧ w < n' ∧ y = .tup [.ptr w 0 0, .d (iD 0)] ∧ WhAt s ps (allR s ps fun _ => true) w m' else y = .tup [.d (.val (.pointer none)), .d (iD (cplE s ps l))]
theorem checkRuns_w (s : RS) (ps : List Int) (hl : ps.length ≤ 1000000) (l : List (Int × Int)) (hll : l.length ≤ 1000000) (n : Nat) (m : Mem) :
    CWp Try.prog 56 [.agg (sto5 s), .d (intL ps), .d (runsD l)] n m fun y n' m' => n ≤ n' ∧ rnP s ps l n n' m' y ∧ ∀ j, j < n → m' j = m j := by
  by_cases h0 : stoE s ps = 0
  · have ok := stoE_ok.1 h0
    have hg := ok.g
    have g1 := hg.s1; have g2 := hg.s2; have g3 := hg.s3
    have n2 := ok.n2
    refine cwpK tabOk Try.func56 rfl rfl (show 3 ≤ _ by decide) rfl fun _ => ?_; simp only [Try.ntmps56]
    repeat (first | (with_reducible first | refine AWi.seqK fun _ => ?_ | refine AWi.blockK fun _ => ?_ | refine KI.go ?_) | ((first | refine AWi.region tabOk ?_ | refine AWi.condK fun _ _ => ?_); simp [-getElem?_pos, z0, z1, z2, z0]) | ((first | refine AWi.ret ?_ | refine AWi.skip ?_ | refine AWi.exit ?_); try simp only [thenP]) | (with_reducible refine BB.go ?_; simp only [blockP, thenP, reduceIte]))
    refine ExecI.callC (check_w s ps hl _ _) rfl (by simp [calleeS, evList]) ?_
    rintro y n1 m1 ⟨q1, q2, q3⟩
    rw [whP, if_pos h0] at q2
    obtain ⟨w, q4, q5, rfl, hw⟩ := q2
    have r0 : m1 n = some (.box 25 (sto5 s) false) := (q3 _ (by omega)).trans (by simp)
    have r1 : m1 (n + 1) = some (.box 76 [.d (.val (.pointer none))] false) := (q3 _ (by omega)).trans (by simp)
    have r2 : m1 (n + 1 + 1) = some (.box 29 [.d (iD 0)] false) := (q3 _ (by omega)).trans (by simp)
    have hlow : ∀ j, j < n → m1 j = m j := fun j hj => (q3 j (by omega)).trans (by (try dsimp only); repeat (first | rw [setMem_lt (by omega)] | rw [putN_lt (by omega)]))
    simp
    have o0 : ¬ n = n1 := by omega
    have o1 : ¬ n = n1 + 1 := by omega
    have o2 : ¬ n = n1 + 2 := by omega
    have o3 : ¬ n = n1 + 3 := by omega
    have o4 : ¬ n = n1 + 1 + 1 + 1 := by omega
    by_cases b1 : l.length < 1
    · have hE : cplE s ps l = 6 := by rw [cplE, if_pos h0, if_pos (.inl b1)]
      have b0 : l = [] := List.length_eq_zero_iff.1 (by omega)
      subst b0
      repeat (first | (with_reducible first | refine AWi.seqK fun _ => ?_ | refine AWi.blockK fun _ => ?_ | refine KI.go ?_) | ((first | refine AWi.region tabOk ?_ | refine AWi.condK fun _ _ => ?_); simp [-getElem?_pos, z0, z1, z2, r0, r1, r2, runRows, o0, o1, o2, o3]) | ((first | refine AWi.ret ?_ | refine AWi.skip ?_ | refine AWi.exit ?_); try simp only [thenP]) | (with_reducible refine BB.go ?_; simp only [blockP, thenP, reduceIte]))
      refine RI.ret (xs := [.d (.val (.pointer none)), .d (iD 6)]) (by simp [Try.results56, resSlots, resSlot, r1, r2]) ?_
      exact ⟨by omega, by rw [rnP, if_neg (by rw [hE]; decide), hE]; rfl, fun j hj => Eq.trans (by (try dsimp only); repeat (first | rw [setMem_lt (by omega)] | rw [putN_lt (by omega)])) (hlow j hj)⟩
    have b1i : ¬ (l.length : Int) < 1 := by omega
    have b0 : ¬ l = [] := fun h => by subst h; simp at b1
    by_cases b2 : 20 < l.length
    · have hE : cplE s ps l = 6 := by rw [cplE, if_pos h0, if_pos (.inr b2)]
      have b2i : (20 : Int) < l.length := by omega
      repeat (first | (with_reducible first | refine AWi.seqK fun _ => ?_ | refine AWi.blockK fun _ => ?_ | refine KI.go ?_) | ((first | refine AWi.region tabOk ?_ | refine AWi.condK fun _ _ => ?_); simp [-getElem?_pos, z0, z1, z2, r0, r1, r2, o0, o1, o2, o3, b0, b1, b1i, b2, b2i]) | ((first | refine AWi.ret ?_ | refine AWi.skip ?_ | refine AWi.exit ?_); try simp only [thenP]) | (with_reducible refine BB.go ?_; simp only [blockP, thenP, reduceIte]))
      refine RI.ret (xs := [.d (.val (.pointer none)), .d (iD 6)]) (by simp [Try.results56, resSlots, resSlot, r1, r2]) ?_
      exact ⟨by omega, by rw [rnP, if_neg (by rw [hE]; decide), hE]; rfl, fun j hj => Eq.trans (by (try dsimp only); repeat (first | rw [setMem_lt (by omega)] | rw [putN_lt (by omega)])) (hlow j hj)⟩
    have b2i : ¬ (20 : Int) < l.length := by omega
    have hpos : 0 < l.length := by omega
    have hposi : (0 : Int) < l.length := by omega
    obtain ⟨⟨x0, p0⟩, hx0⟩ : ∃ r, l[0]? = some r := ⟨_, List.getElem?_eq_getElem hpos⟩
    have hE : cplE s ps l = if (List.range l.length).all (okRun s ps.length l) = true then (if (List.range l.length).all (rimOk s ps l) = true then 0 else 19) else 3 := by rw [cplE, if_pos h0, if_neg (by omega)]
    have hrun := runs_iff (s := s) (n := ps.length) hx0
    repeat (first | (with_reducible first | refine AWi.seqK fun _ => ?_ | refine AWi.blockK fun _ => ?_ | refine KI.go ?_) | ((first | refine AWi.region tabOk ?_ | refine AWi.condK fun _ _ => ?_); simp [-getElem?_pos, z0, z1, z2, r0, r1, r2, o0, o1, o2, o3, b0, b1, b1i, b2, b2i]) | ((first | refine AWi.ret ?_ | refine AWi.skip ?_ | refine AWi.exit ?_); try simp only [thenP]) | (with_reducible refine BB.go ?_; simp only [blockP, thenP, reduceIte]))
    refine AWi.drawsV mixedR (by kernel_rfl) ?_
    have a1 : n < n1 + 1 + 1 + 1 + 1 + 1 + 1 + 1 + 1 + 1 + 1 + 1 + 1 + 1 + 1 + 1 + 1 + 1 + 1 := by omega
    by_cases c1 : x0 = s.long
    · repeat (with_reducible refine ExecV.auto tabOk ?_; simp [-getElem?_pos, z0, z1, z2, kindV, isPure, r0, o0, o1, o2, o3, hpos, hposi, hx0, c1]; try (refine And.intro (OkV_old (by simp; try omega) (by omega) (by simp [AllAcc])) ?_))
      show ExecV _ _ _ _ _ _ _ _ _ _
      refine ExecV.ro (x := .d (intL (l.map (·.1)))) (svs := [.d (runsD l)]) [] (RCall.ofA (froms_x l (by omega)) rfl _) rfl (by simp [-getElem?_pos, z0, z1, z2]) (by simp [calleeS, evList]) (OkV_old (by simp) (by omega) (by simp [AllAcc])) ?_
      repeat (with_reducible refine ExecV.auto tabOk ?_; simp [-getElem?_pos, z0, z1, z2, kindV, isPure, r0, o0, o1, o2, o3, hpos, hposi, hx0, c1]; try (refine And.intro (OkV_old (by simp; try omega) (by omega) (by simp [AllAcc])) ?_))
      show ExecV _ _ _ _ _ _ _ _ _ _
      refine ExecV.ro (x := .d (bD (lenB s (l.map (·.1))))) (svs := [.agg (sto5 s), .d (intL (l.map (·.1)))]) [] (RCall.ofA (areLengths_c s (l.map (·.1)) (by rw [List.length_map]; omega)) rfl _) rfl (by simp [-getElem?_pos, z0, z1, z2]) (by simp [calleeS, evList]) (OkV_old (by simp) (by omega) (by simp [AllAcc])) ?_
      cases hL : lenB s (l.map (·.1)) with
      | false =>
        have hE3 : cplE s ps l = 3 := by rw [hE, if_neg fun h => by have := (hrun.1 h).2.1; rw [hL] at this; cases this]
        repeat (with_reducible refine ExecV.auto tabOk ?_; simp [-getElem?_pos, z0, z1, z2, kindV, isPure, r0, o0, o1, o2, o3, hpos, hposi, hx0, c1]; try (refine And.intro (OkV_old (by simp; try omega) (by omega) (by simp [AllAcc])) ?_))
        unfold ExecV
        simp only [thenP]
        repeat (first | (with_reducible first | refine AWi.seqK fun _ => ?_ | refine AWi.blockK fun _ => ?_ | refine KI.go ?_) | ((first | refine AWi.region tabOk ?_ | refine AWi.condK fun _ _ => ?_); simp [-getElem?_pos, z0, z1, z2, r0, r1, r2, o0, o1, o2, o3]) | ((first | refine AWi.ret ?_ | refine AWi.skip ?_ | refine AWi.exit ?_); try simp only [thenP]) | (with_reducible refine BB.go ?_; simp only [blockP, thenP, reduceIte]))
        refine RI.ret (xs := [.d (.val (.pointer none)), .d (iD 3)]) (by simp [Try.results56, resSlots, resSlot, r1, r2]) ?_
        exact ⟨by omega, by rw [rnP, if_neg (by rw [hE3]; decide), hE3]; rfl, fun j hj => Eq.trans (by (try dsimp only); repeat (first | rw [setMem_lt (by omega)] | rw [putN_lt (by omega)])) (hlow j hj)⟩
      | true =>
        repeat (with_reducible refine ExecV.auto tabOk ?_; simp [-getElem?_pos, z0, z1, z2, kindV, isPure, r0, o0, o1, o2, o3, hpos, hposi, hx0, c1]; try (refine And.intro (OkV_old (by simp; try omega) (by omega) (by simp [AllAcc])) ?_))
        unfold ExecV
        simp only [thenP]
        repeat (first | (with_reducible first | refine AWi.seqK fun _ => ?_ | refine AWi.blockK fun _ => ?_ | refine KI.go ?_) | ((first | refine AWi.region tabOk ?_ | refine AWi.condK fun _ _ => ?_); simp [-getElem?_pos, z0, z1, z2, r0, r1, r2, o0, o1, o2, o3]) | ((first | refine AWi.ret ?_ | refine AWi.skip ?_ | refine AWi.exit ?_); try simp only [thenP]) | (with_reducible refine BB.go ?_; simp only [blockP, thenP, reduceIte]))
        rw [hL] at hrun
        have hlow2 : ∀ j, j < n1 → (setMem (setMem m1 (n1 + 1 + 1 + 1) (some (Blk.box 76 [SV.d (Dat.val (Value.pointer none))] false))) (n1 + 1 + 1 + 1) (some (Blk.box 76 [SV.ptr w 0 0] false))) j = m1 j := fun j hj => by (try dsimp only); repeat (first | rw [setMem_lt (by omega)] | rw [putN_lt (by omega)])
        have hc8 : (setMem (setMem m1 (n1 + 1 + 1 + 1) (some (Blk.box 76 [SV.d (Dat.val (Value.pointer none))] false))) (n1 + 1 + 1 + 1) (some (Blk.box 76 [SV.ptr w 0 0] false))) (n1 + 1 + 1 + 1) = some (Blk.box 76 [SV.ptr w 0 0] false) := if_pos rfl
        generalize (setMem (setMem m1 (n1 + 1 + 1 + 1) (some (Blk.box 76 [SV.d (Dat.val (Value.pointer none))] false))) (n1 + 1 + 1 + 1) (some (Blk.box 76 [SV.ptr w 0 0] false))) = m2 at *
        refine AWi.loopK (ι := { i : Nat // i ≤ l.length ∧ ∀ (j : Nat) (x p : Int), j < i → l[j]? = some (x, p) → 0 ≤ p ∧ p < ps.length }) (fun i n3 t => n1 + 1 + 1 + 1 + 1 ≤ n3 ∧ t.slots 2 = .d (runsD l) ∧ t.slots 3 = .ptr n 0 0 ∧ t.slots 6 = .ptr (n + 1) 0 0 ∧ t.slots 7 = .ptr (n + 1 + 1) 0 0 ∧ t.slots 8 = .ptr (n1 + 1 + 1 + 1) 0 0 ∧ t.slots 45 = .d (runsD l) ∧ t.slots 46 = .d (iD l.length) ∧ t.slots 47 = .d (iD i.1) ∧ ∀ j, j < n1 + 1 + 1 + 1 + 1 → t.mem j = m2 j) (fun i => l.length - i.1) ⟨0, Nat.zero_le _, fun j x p hj => by omega⟩ ?_ ?_
        · exact ⟨by omega, by simp, by simp, by simp, by simp, by simp, by simp, by simp, by simp, fun j hj => rfl⟩
        rintro ⟨i, hi, hip⟩ n3 t ⟨k0, t2, t3, t6, t7, t8, t45, t46, t47, tl⟩ kk
        simp only at t47
        have w1 : IntKind.i64.wrap ((i : Int) + 1) = (i : Int) + 1 := wrap64_in (by omega)
        have u8 := (tl _ (by omega)).trans hc8
        have u1 := (tl (n + 1) (by omega)).trans ((hlow2 _ (by omega)).trans r1)
        have u2 := (tl (n + 1 + 1) (by omega)).trans ((hlow2 _ (by omega)).trans r2)
        have uw : WhAt s ps (allR s ps fun _ => true) w t.mem := (tl w (by omega)).trans ((hlow2 w (by omega)).trans hw)
        by_cases hlt : i < l.length
        · have hii : (i : Int) < l.length := by omega
          obtain ⟨⟨x, p⟩, hx⟩ : ∃ r, l[i]? = some r := ⟨_, List.getElem?_eq_getElem hlt⟩
          have o6 : ¬ n1 = n3 := by omega
          have o7 : ¬ n = n3 := by omega
          have o8 : ¬ n = n3 + 1 := by omega
          have o9 : ¬ n = n3 + 2 := by omega
          repeat (first | (with_reducible first | refine AWi.seqK fun _ => ?_ | refine AWi.blockK fun _ => ?_ | refine KI.go ?_) | ((first | refine AWi.region tabOk ?_ | refine AWi.condK fun _ _ => ?_); simp [-getElem?_pos, z0, z1, z2, t2, t3, t6, t7, t8, t45, t46, t47, hii, hlt, hx, u8, o6]) | ((first | refine AWi.ret ?_ | refine AWi.skip ?_ | refine AWi.exit ?_); try simp only [thenP]) | (with_reducible refine BB.go ?_; simp only [blockP, thenP, reduceIte]))
          refine ExecI.callC (isPulley_w ((uw.set (by omega)).set (by omega)) p _) rfl (by simp [calleeS, evList]) ?_
          rintro y n4 m4 ⟨v1, v2, rfl, rfl⟩
          by_cases hp : 0 ≤ p ∧ p < ps.length
          · rw [decide_eq_true hp]
            simp [-getElem?_pos, z0, z1, z2]
            repeat (first | (with_reducible first | refine AWi.seqK fun _ => ?_ | refine AWi.blockK fun _ => ?_ | refine KI.go ?_) | ((first | refine AWi.region tabOk ?_ | refine AWi.condK fun _ _ => ?_); simp [-getElem?_pos, z0, z1, z2, t47, w1]) | ((first | refine AWi.ret ?_ | refine AWi.skip ?_ | refine AWi.exit ?_); try simp only [thenP]) | (with_reducible refine BB.go ?_; simp only [blockP, thenP, reduceIte]))
            refine LI.go ⟨i + 1, hlt, fun j x' p' hj hx' => ?_⟩ ⟨by omega, by simp [t2], by simp [t3], by simp [t6], by simp [t7], by simp [t8], by simp [t45], by simp [t46], by simp [iD], fun j hj => Eq.trans (by (try dsimp only); repeat (first | rw [setMem_lt (by omega)] | rw [putN_lt (by omega)])) (tl j hj)⟩ (by simp; omega)
            by_cases hji : j < i
            · exact hip j x' p' hji hx'
            · obtain rfl : j = i := by omega
              rw [hx] at hx'
              cases hx'
              exact hp
          · have hE3 : cplE s ps l = 3 := by rw [hE, if_neg fun h => hp ((hrun.1 h).2.2 i x p hx)]
            rw [decide_eq_false hp]
            simp [-getElem?_pos, z0, z1, z2]
            repeat (first | (with_reducible first | refine AWi.seqK fun _ => ?_ | refine AWi.blockK fun _ => ?_ | refine KI.go ?_) | ((first | refine AWi.region tabOk ?_ | refine AWi.condK fun _ _ => ?_); simp [-getElem?_pos, z0, z1, z2, t6, t7, u1, u2, o6, o7, o8, o9]) | ((first | refine AWi.ret ?_ | refine AWi.skip ?_ | refine AWi.exit ?_); try simp only [thenP]) | (with_reducible refine BB.go ?_; simp only [blockP, thenP, reduceIte]))
            refine RI.ret (xs := [.d (.val (.pointer none)), .d (iD 3)]) (by simp [Try.results56, resSlots, resSlot, t6, t7, u1, u2]) ?_
            exact ⟨by omega, by rw [rnP, if_neg (by rw [hE3]; decide), hE3]; rfl, fun j hj => Eq.trans (by (try dsimp only); repeat (first | rw [setMem_lt (by omega)] | rw [putN_lt (by omega)])) ((tl j (by omega)).trans ((hlow2 j (by omega)).trans (hlow j hj)))⟩
        · obtain rfl : i = l.length := by omega
          have hall : (List.range l.length).all (okRun s ps.length l) = true := hrun.2 ⟨c1, rfl, fun j x p hx => hip j x p (List.getElem?_eq_some_iff.1 hx).1 hx⟩
          rw [if_pos hall] at hE
          repeat (first | (with_reducible first | refine AWi.seqK fun _ => ?_ | refine AWi.blockK fun _ => ?_ | refine KI.go ?_) | ((first | refine AWi.region tabOk ?_ | refine AWi.condK fun _ _ => ?_); simp [-getElem?_pos, z0, z1, z2, t2, t8, t46, t47, u8]) | ((first | refine AWi.ret ?_ | refine AWi.skip ?_ | refine AWi.exit ?_); try simp only [thenP]) | (with_reducible refine BB.go ?_; simp only [blockP, thenP, reduceIte]))
          refine ExecI.callC (lasts_w w l _ _) rfl (by simp [calleeS, evList]) ?_
          rintro y n4 m4 ⟨rfl, rfl, rfl⟩
          simp
          repeat (first | (with_reducible first | refine AWi.seqK fun _ => ?_ | refine AWi.blockK fun _ => ?_ | refine KI.go ?_) | ((first | refine AWi.region tabOk ?_ | refine AWi.condK fun _ _ => ?_); simp [-getElem?_pos, z0, z1, z2, z0]) | ((first | refine AWi.ret ?_ | refine AWi.skip ?_ | refine AWi.exit ?_); try simp only [thenP]) | (with_reducible refine BB.go ?_; simp only [blockP, thenP, reduceIte]))
          refine AWi.iterK (lasts1_w (s := s) (ps := ps) (A := allR s ps fun _ => true) hg w (n3 + 1 + 1 + 1) (n3 + 1 + 1 + 1 + 1) l (by omega) (fun j x p hx => by have := runs_in hall j x p hx; omega)) (f := 76) (us := []) (vs := [.ptr (n3 + 1 + 1 + 1 + 1) 0 0, .ptr (n3 + 1 + 1 + 1) 0 0]) (by simp [-getElem?_pos, z0, z1, z2]) (fun _ => rfl) (fun _ h => by cases h) rfl (by intro z hz; obtain ⟨x, _, rfl⟩ := List.mem_map.1 hz; rfl)
            (fun i mm => (∀ j, j < n3 → mm j = t.mem j) ∧ mm (n3 + 1 + 1 + 1) = some (.box 76 [.ptr w 0 0] false) ∧ mm (n3 + 1 + 1 + 1 + 1) = some (.box 36 [.d (runsD l)] false) ∧ (List.range i).all (rimOk s ps l) = true)
            (fun c mm => c = .ret ∧ (∀ j, j < n → mm j = m j) ∧ mm (n + 1) = some (.box 76 [.d (.val (.pointer none))] false) ∧ mm (n + 1 + 1) = some (.box 29 [.d (iD 19)] false) ∧ cplE s ps l = 19) ?_ ?_ (fun i mm h => ⟨(h.1 w (by omega)).trans uw, ⟨_, h.2.1⟩, ⟨_, h.2.2.1⟩⟩) ?_ ?_ ?_ ?_
          · rintro i mm mm' h ⟨h1, h2, h3, h4⟩
            exact ⟨fun j hj => (h j (by omega)).trans (h1 j hj), (h _ (by omega)).trans h2, (h _ (by omega)).trans h3, h4⟩
          · rintro c mm mm' h ⟨h1, h2, h3, h4, h5⟩
            exact ⟨h1, fun j hj => (h j (by omega)).trans (h2 j hj), (h _ (by omega)).trans h3, (h _ (by omega)).trans h4, h5⟩
          · refine ⟨fun j hj => by simp only [lastM]; (try dsimp only); repeat (first | rw [setMem_lt (by omega)] | rw [putN_lt (by omega)]), by simp, by simp, rfl⟩
          · rintro i n5 m5 z hz hn5 ⟨h1, h2, h3, h4⟩ kr
            rw [List.getElem?_map, Option.map_eq_some_iff] at hz
            obtain ⟨j, hj, rfl⟩ := hz
            obtain ⟨hil, rfl⟩ : i < l.length ∧ i = j := by
              obtain ⟨a, b⟩ := List.getElem?_eq_some_iff.1 hj
              simp at a b
              exact ⟨a, b⟩
            obtain ⟨⟨x, p⟩, hx⟩ : ∃ r, l[i]? = some r := ⟨_, List.getElem?_eq_getElem hil⟩
            obtain ⟨P, rfl, hP, hrm⟩ := rim_bears ok hall hx
            have hlv : lastV s l i = [.agg [.d (iD x), .d (iD P)], .d (iD (endR s l i))] := by simp [lastV, List.getD_eq_getElem?_getD, hx]
            rw [hlv]
            generalize endR s l i = z at *
            repeat (first | (with_reducible first | refine AWi.seqK fun _ => ?_ | refine AWi.blockK fun _ => ?_ | refine KI.go ?_) | ((first | refine AWi.region tabOk ?_ | refine AWi.condK fun _ _ => ?_); simp [-getElem?_pos, z0, z1, z2, putAll]) | ((first | refine AWi.ret ?_ | refine AWi.skip ?_ | refine AWi.exit ?_); try simp only [thenP]) | (with_reducible refine BB.go ?_; simp only [blockP, thenP, reduceIte]))
            refine RB.go (by omega) (fun j hj => by (try dsimp only); repeat (first | rw [setMem_lt (by omega)] | rw [putN_lt (by omega)])) fun rc hrc qq => ?_
            have v8 := (h1 _ (by omega)).trans u8
            have vw : WhAt s ps (allR s ps fun _ => true) w m5 := (h1 w (by omega)).trans uw
            have p1 : ¬ n1 = n3 + 5 := by omega
            have p2 : ¬ n1 + 1 + 1 + 1 = n5 := by omega
            have p3 : ¬ n5 = n3 + 1 + 1 + 1 + 1 + 1 + 1 + 1 + 1 := by omega
            have p4 : ¬ n5 = n3 + 8 := by omega
            repeat (first | (with_reducible first | refine AWi.seqK fun _ => ?_ | refine AWi.blockK fun _ => ?_ | refine KI.go ?_) | ((first | refine AWi.region tabOk ?_ | refine AWi.condK fun _ _ => ?_); simp [-getElem?_pos, z0, z1, z2, t8, v8, p1, p2, p3, p4]) | ((first | refine AWi.ret ?_ | refine AWi.skip ?_ | refine AWi.exit ?_); try simp only [thenP]) | (with_reducible refine BB.go ?_; simp only [blockP, thenP, reduceIte]))
            have hP12 : P < 12 := by omega
            refine ExecI.callC (bears_w (p := P) (((vw.set (by omega)).set (by omega)).set (by omega)) hP12 x _ (by omega)) rfl (by simp [calleeS, evList]) ?_
            rintro y n6 m6 ⟨e1, e2, rfl, e3⟩
            have x5 : m6 n5 = some (.box 59 [.d (iD x), .d (iD P)] false) := (e3 _ (by omega)).trans (by simp [p4])
            have hmid : ∀ j, j < n5 → j ≠ n3 + 1 + 1 + 1 + 1 + 1 + 1 + 1 + 1 → m6 j = m5 j := fun j j1 j2 => (e3 j (by omega)).trans ((if_neg j2).trans (by (try dsimp only); repeat (first | rw [setMem_lt (by omega)] | rw [putN_lt (by omega)])))
            have x8 := (hmid _ (by omega) (by omega)).trans v8
            have xw : WhAt s ps (allR s ps fun _ => true) w m6 := (hmid w (by omega) (by omega)).trans vw
            have x1 := (hmid (n + 1) (by omega) (by omega)).trans ((h1 _ (by omega)).trans u1)
            have x2 := (hmid (n + 1 + 1) (by omega) (by omega)).trans ((h1 _ (by omega)).trans u2)
            have xlow : ∀ j, j < n → m6 j = m j := fun j hj => (hmid j (by omega) (by omega)).trans ((h1 j (by omega)).trans ((tl j (by omega)).trans ((hlow2 j (by omega)).trans (hlow j hj))))
            have hbad : rimOk s ps l i = false → cplE s ps l = 19 := fun h => by rw [hE, all_no hil h]; rfl
            cases ha : bearB (allR s ps fun _ => true) P x with
            | false =>
              have hE19 := hbad (by rw [hrm, ha]; rfl)
              simp [-getElem?_pos, z0, z1, z2]
              repeat (first | (with_reducible first | refine AWi.seqK fun _ => ?_ | refine AWi.blockK fun _ => ?_ | refine KI.go ?_) | ((first | refine AWi.region tabOk ?_ | refine AWi.condK fun _ _ => ?_); simp [-getElem?_pos, z0, z1, z2, t6, t7, t8, x1, x2, p4]) | ((first | refine AWi.ret ?_ | refine AWi.skip ?_ | refine AWi.exit ?_); try simp only [thenP]) | (with_reducible refine BB.go ?_; simp only [blockP, thenP, reduceIte]))
              exact RE.ret (by omega) (fun j j1 j2 => Eq.trans (show setMem _ _ _ j = _ by rw [setMem, if_neg (by omega), setMem, if_neg (by omega)]) (e3 j (by omega))) ⟨rfl, fun j hj => Eq.trans (by (try dsimp only); repeat (first | rw [setMem_lt (by omega)] | rw [putN_lt (by omega)])) (xlow j hj), by simp, by simp, hE19⟩
            | true =>
              simp [-getElem?_pos, z0, z1, z2, t8, x8, x5, p4]
              repeat (first | (with_reducible first | refine AWi.seqK fun _ => ?_ | refine AWi.blockK fun _ => ?_ | refine KI.go ?_) | ((first | refine AWi.region tabOk ?_ | refine AWi.condK fun _ _ => ?_); simp [-getElem?_pos, z0, z1, z2, t8, x8, x5, p4]) | ((first | refine AWi.ret ?_ | refine AWi.skip ?_ | refine AWi.exit ?_); try simp only [thenP]) | (with_reducible refine BB.go ?_; simp only [blockP, thenP, reduceIte]))
              refine ExecI.callC (bears_w (p := P) xw hP12 z _ (by omega)) (by simp [-getElem?_pos, z0, z1, z2]) (by simp [calleeS, evList]) ?_
              rintro y n7 m7 ⟨f1, f2, rfl, f3⟩
              have hmid7 : ∀ j, j < n6 → m7 j = m6 j := fun j hj => Eq.trans (f3 j (by omega)) (by (try dsimp only); repeat (first | rw [setMem_lt (by omega)] | rw [putN_lt (by omega)]))
              cases hb : bearB (allR s ps fun _ => true) P z with
              | false =>
                have hE19 := hbad (by rw [hrm, ha, hb]; rfl)
                have y1 := (hmid7 (n + 1) (by omega)).trans x1
                have y2 := (hmid7 (n + 1 + 1) (by omega)).trans x2
                simp [-getElem?_pos, z0, z1, z2]
                repeat (first | (with_reducible first | refine AWi.seqK fun _ => ?_ | refine AWi.blockK fun _ => ?_ | refine KI.go ?_) | ((first | refine AWi.region tabOk ?_ | refine AWi.condK fun _ _ => ?_); simp [-getElem?_pos, z0, z1, z2, t6, t7, t8, y1, y2, p4]) | ((first | refine AWi.ret ?_ | refine AWi.skip ?_ | refine AWi.exit ?_); try simp only [thenP]) | (with_reducible refine BB.go ?_; simp only [blockP, thenP, reduceIte]))
                exact RE.ret (by omega) (fun j j1 j2 => Eq.trans (show setMem _ _ _ j = _ by rw [setMem, if_neg (by omega), setMem, if_neg (by omega)]) ((hmid7 j (by omega)).trans (e3 j (by omega)))) ⟨rfl, fun j hj => Eq.trans (by (try dsimp only); repeat (first | rw [setMem_lt (by omega)] | rw [putN_lt (by omega)])) ((hmid7 j (by omega)).trans (xlow j hj)), by simp, by simp, hE19⟩
              | true =>
                simp [-getElem?_pos, z0, z1, z2]
                repeat (first | (with_reducible first | refine AWi.seqK fun _ => ?_ | refine AWi.blockK fun _ => ?_ | refine KI.go ?_) | ((first | refine AWi.region tabOk ?_ | refine AWi.condK fun _ _ => ?_); simp [-getElem?_pos, z0, z1, z2, t6, t7, t8, p4]) | ((first | refine AWi.ret ?_ | refine AWi.skip ?_ | refine AWi.exit ?_); try simp only [thenP]) | (with_reducible refine BB.go ?_; simp only [blockP, thenP, reduceIte]))
                exact RE.normal (by omega) (fun j j1 j2 => (hmid7 j (by omega)).trans (e3 j (by omega))) ⟨fun j hj => (hmid7 j (by omega)).trans ((hmid j (by omega) (by omega)).trans (h1 j hj)), (hmid7 _ (by omega)).trans ((hmid _ (by omega) (by omega)).trans h2), (hmid7 _ (by omega)).trans ((hmid _ (by omega) (by omega)).trans h3), all_succ h4 (by rw [hrm, ha, hb]; rfl)⟩
          · rintro n' m' hn' ⟨h1, h2, h3, h4⟩
            simp only [thenP]
            have u8' := (h1 _ (by omega)).trans u8
            have u1' := (h1 _ (by omega)).trans u1
            have u2' := (h1 _ (by omega)).trans u2
            repeat (first | (with_reducible first | refine AWi.seqK fun _ => ?_ | refine AWi.blockK fun _ => ?_ | refine KI.go ?_) | ((first | refine AWi.region tabOk ?_ | refine AWi.condK fun _ _ => ?_); simp [-getElem?_pos, z0, z1, z2, t6, t7, t8, u8', u1', u2']) | ((first | refine AWi.ret ?_ | refine AWi.skip ?_ | refine AWi.exit ?_); try simp only [thenP]) | (with_reducible refine BB.go ?_; simp only [blockP, thenP, reduceIte]))
            have hE0 : cplE s ps l = 0 := by
              rw [hE]
              simp only [List.length_map, List.length_range] at h4
              rw [if_pos h4]
            refine RI.ret (xs := [.ptr w 0 0, .d (iD 0)]) (by simp [Try.results56, resSlots, resSlot, t6, t7, u1', u2']) ?_
            have u9 : ∀ j, j < n3 → j ≠ n + 1 → j ≠ n + 1 + 1 → setMem (setMem m' (n + 1) (some (Blk.box 76 [SV.ptr w 0 0] false))) (n + 1 + 1) (some (Blk.box 29 [SV.d (Dat.val (Value.int IntKind.i64 0))] false)) j = t.mem j := fun j j0 j1 j2 => by rw [setMem, if_neg (by omega), setMem, if_neg (by omega), h1 j j0]
            exact ⟨by omega, by rw [rnP, if_pos hE0]; exact ⟨w, by omega, by omega, rfl, (u9 w (by omega) (by omega) (by omega)).trans uw⟩, fun j hj => (u9 j (by omega) (by omega) (by omega)).trans ((tl j (by omega)).trans ((hlow2 j (by omega)).trans (hlow j hj)))⟩
          · rintro c n' m' hn' ⟨rfl, h2, h3, h4, h5⟩
            simp only [afterP, thenP]
            repeat (first | (with_reducible first | refine AWi.seqK fun _ => ?_ | refine AWi.blockK fun _ => ?_ | refine KI.go ?_) | ((first | refine AWi.region tabOk ?_ | refine AWi.condK fun _ _ => ?_); simp [-getElem?_pos, z0, z1, z2, t6, t7]) | ((first | refine AWi.ret ?_ | refine AWi.skip ?_ | refine AWi.exit ?_); try simp only [thenP]) | (with_reducible refine BB.go ?_; simp only [blockP, thenP, reduceIte]))
            refine RI.ret (xs := [.d (.val (.pointer none)), .d (iD 19)]) (by simp [Try.results56, resSlots, resSlot, t6, t7, h3, h4]) ?_
            exact ⟨by omega, by rw [rnP, if_neg (by rw [h5]; decide), h5]; rfl, h2⟩
    · have hE3 : cplE s ps l = 3 := by rw [hE, if_neg fun h => c1 (hrun.1 h).1]
      repeat (with_reducible refine ExecV.auto tabOk ?_; simp [-getElem?_pos, z0, z1, z2, kindV, isPure, r0, o0, o1, o2, o3, hpos, hposi, hx0, c1]; try (refine And.intro (OkV_old (by simp; try omega) (by omega) (by simp [AllAcc])) ?_))
      unfold ExecV
      simp only [thenP]
      repeat (first | (with_reducible first | refine AWi.seqK fun _ => ?_ | refine AWi.blockK fun _ => ?_ | refine KI.go ?_) | ((first | refine AWi.region tabOk ?_ | refine AWi.condK fun _ _ => ?_); simp [-getElem?_pos, z0, z1, z2, r0, r1, r2, o0, o1, o2, o3]) | ((first | refine AWi.ret ?_ | refine AWi.skip ?_ | refine AWi.exit ?_); try simp only [thenP]) | (with_reducible refine BB.go ?_; simp only [blockP, thenP, reduceIte]))
      refine RI.ret (xs := [.d (.val (.pointer none)), .d (iD 3)]) (by simp [Try.results56, resSlots, resSlot, r1, r2]) ?_
      exact ⟨by omega, by rw [rnP, if_neg (by rw [hE3]; decide), hE3]; rfl, fun j hj => Eq.trans (by (try dsimp only); repeat (first | rw [setMem_lt (by omega)] | rw [putN_lt (by omega)])) (hlow j hj)⟩
  · have hE : cplE s ps l = stoE s ps := by rw [cplE, if_neg h0]
    refine cwpK tabOk Try.func56 rfl rfl (show 3 ≤ _ by decide) rfl fun _ => ?_; simp only [Try.ntmps56]
    repeat (first | (with_reducible first | refine AWi.seqK fun _ => ?_ | refine AWi.blockK fun _ => ?_ | refine KI.go ?_) | ((first | refine AWi.region tabOk ?_ | refine AWi.condK fun _ _ => ?_); simp [-getElem?_pos, z0, z1, z2, z0]) | ((first | refine AWi.ret ?_ | refine AWi.skip ?_ | refine AWi.exit ?_); try simp only [thenP]) | (with_reducible refine BB.go ?_; simp only [blockP, thenP, reduceIte]))
    refine ExecI.callC (check_w s ps hl _ _) rfl (by simp [calleeS, evList]) ?_
    rintro y n1 m1 ⟨q1, q2, q3⟩
    rw [whP, if_neg h0] at q2
    subst q2
    have r1 : m1 (n + 1) = some (.box 76 [.d (.val (.pointer none))] false) := (q3 _ (by omega)).trans (by first | rfl | simp)
    have r2 : m1 (n + 1 + 1) = some (.box 29 [.d (iD 0)] false) := (q3 _ (by omega)).trans (by first | rfl | simp)
    have hlow : ∀ j, j < n → m1 j = m j := fun j hj => (q3 j (by omega)).trans (by (try dsimp only); repeat (first | rw [setMem_lt (by omega)] | rw [putN_lt (by omega)]))
    have o0 : ¬ n = n1 := by omega
    have o1 : ¬ n = n1 + 1 := by omega
    have o2 : ¬ n = n1 + 2 := by omega
    have o3 : ¬ n = n1 + 3 := by omega
    simp
    repeat (first | (with_reducible first | refine AWi.seqK fun _ => ?_ | refine AWi.blockK fun _ => ?_ | refine KI.go ?_) | ((first | refine AWi.region tabOk ?_ | refine AWi.condK fun _ _ => ?_); simp [-getElem?_pos, z0, z1, z2, h0, r1, r2, o0, o1, o2, o3]) | ((first | refine AWi.ret ?_ | refine AWi.skip ?_ | refine AWi.exit ?_); try simp only [thenP]) | (with_reducible refine BB.go ?_; simp only [blockP, thenP, reduceIte]))
    refine RI.ret (xs := [.d (.val (.pointer none)), .d (iD (stoE s ps))]) (by simp [Try.results56, resSlots, resSlot, r1, r2]) ?_
    exact ⟨by omega, by rw [rnP, if_neg (by rw [hE]; exact h0), hE]; rfl, fun j hj => Eq.trans (by (try dsimp only); repeat (first | rw [setMem_lt (by omega)] | rw [putN_lt (by omega)])) (hlow j hj)⟩
end Go.Proofs.Ytdkneonokbakjaa.Eng

namespace Go.Proofs.Ytdkneonokbakjaa.Eng
open Go.RowKit
def leastStep (cost : Int → Int) (st : Int × Int × Bool) (b : Int) : Int × Int × Bool := if st.2.2 = false ∨ cost b < st.2.1 then (b, cost b, true) else st
def leastN (cost : Int → Int) (bs : List Int) : Int × Int × Bool := bs.foldl (leastStep cost) (0, 0, false)
theorem leastN_succ (cost : Int → Int) {bs : List Int} {i : Nat} {b : Int} (h : bs[i]? = some b) : leastN cost (bs.take (i + 1)) = leastStep cost (leastN cost (bs.take i)) b := by
  obtain ⟨hi, rfl⟩ := List.getElem?_eq_some_iff.1 h
  unfold leastN
  rw [List.take_succ_eq_append_getElem hi, List.foldl_append]
  rfl
def oneI (b : Int) : List SV := [.d (iD b)]
set_option maxRecDepth 100000 in
set_option maxHeartbeats 4000000 in
theorem leastBy_w {f : FuncId} {us vs : List SV} {args : SV → List SV} {bs : List Int} {K : Mem → Prop} (hit : Iterates Try.prog f args (bs.map oneI) K) (ha : ∀ Y, args Y = us ++ [Y] ++ vs) (B : SV) (hB : FnV B) (cost : Int → Int) (n : Nat) (m : Mem) (hK : K m) (hKb : Below' n K)
    (hby : ∀ b ∈ bs, ∀ n' m', n ≤ n' → (∀ j, j < n → m' j = m j) → YCall Try.prog B [.d (iD b)] n' m' fun y n'' m'' => n' ≤ n'' ∧ (∀ j, j < n' → m'' j = m' j) ∧ y = .d (iD (cost b))) :
    CWp Try.prog 80 [.fn f us vs, B] n m fun y n' m' => n ≤ n' ∧ (∀ j, j < n → m' j = m j) ∧ y = .tup [.d (iD (leastN cost bs).1), .d (bD (leastN cost bs).2.2)] := by
  obtain ⟨hB1, hB2⟩ := hB
  refine cwpK tabOk Try.func80 rfl rfl (show 2 ≤ _ by decide) rfl fun _ => ?_; simp only [Try.ntmps80]
  refine AWi.seqK fun _ => ?_
  refine AWi.region tabOk ?_
  simp [-getElem?_pos, z0, z1, z2, -SV.fit, -SV.cells, hB1, hB2]
  repeat (first | (with_reducible first | refine AWi.seqK fun _ => ?_ | refine AWi.blockK fun _ => ?_ | refine KI.go ?_) | ((first | refine AWi.region tabOk ?_ | refine AWi.condK fun _ _ => ?_ | refine AWi.draws tabOk rfl (by kernel_rfl) (by kernel_rfl) ?_); simp [-getElem?_pos, z0, z1, z2, z0]) | ((first | refine AWi.ret ?_ | refine AWi.skip ?_ | refine AWi.exit ?_); try simp only [thenP]) | (with_reducible refine BB.go ?_; simp only [blockP, thenP, reduceIte]) | (with_reducible refine And.intro (okLog_c (by simp [footOf, guardSlot, slotsOf, idsRead, looks, idsOf, idsOf1, idsWritten, colF]; kernel_rfl)) ?_))
  refine AWi.iterK hit rfl ha (fun _ h => by cases h) rfl (by simp [oneI])
    (fun i mm => (∀ j, j < n → mm j = m j) ∧ mm n = some (.box 105 [B] false) ∧ mm (n + 1 + 1 + 1) = some (.box 3 [.d (iD (leastN cost (bs.take i)).1)] false) ∧ mm (n + 1 + 1 + 1 + 1) = some (.box 2 [.d (iD (leastN cost (bs.take i)).2.1)] false) ∧ mm (n + 1 + 1 + 1 + 1 + 1) = some (.box 4 [.d (bD (leastN cost (bs.take i)).2.2)] false))
    (fun _ _ => False) ?_ ?_ ?_ ?_ ?_ ?_ ?_
  · rintro i mm mm' h ⟨h1, h2, h3, h4, h5⟩
    exact ⟨fun j hj => (h j (by omega)).trans (h1 j hj), (h _ (by omega)).trans h2, (h _ (by omega)).trans h3, (h _ (by omega)).trans h4, (h _ (by omega)).trans h5⟩
  · exact fun _ _ _ _ h => h
  · exact fun i mm h => hKb _ _ h.1 hK
  · refine ⟨fun j hj => ?_, ?_, ?_, ?_, ?_⟩
    · simp [show ¬ j = n + 1 + 1 + 1 by omega, show ¬ j = n by omega, show ¬ j = n + 1 + 1 + 1 + 1 by omega, show ¬ j = n + 1 + 1 + 1 + 1 + 1 by omega]
    · simp [show ¬ n = n + 1 + 1 + 1 + 1 + 1 by omega, show ¬ n = n + 1 + 1 + 1 + 1 by omega, show ¬ n = n + 1 + 1 + 1 by omega]
    · simp [leastN, iD]
    · simp [leastN, iD]
    · simp [leastN, bD]
  · rintro i n2 m2 z hz hn2 ⟨h1, h2, h3, h4, h5⟩ kk
    obtain ⟨b, hb, rfl⟩ : ∃ b, bs[i]? = some b ∧ oneI b = z := by simpa using hz
    have hs := leastN_succ cost hb
    generalize leastN cost (bs.take i) = st at h3 h4 h5 hs
    obtain ⟨lb, lc, lf⟩ := st
    repeat (first | (with_reducible first | refine AWi.seqK fun _ => ?_ | refine AWi.blockK fun _ => ?_ | refine KI.go ?_) | ((first | refine AWi.region tabOk ?_ | refine AWi.condK fun _ _ => ?_ | refine AWi.draws tabOk rfl (by kernel_rfl) (by kernel_rfl) ?_); simp [-getElem?_pos, z0, z1, z2, putAll, oneI]) | ((first | refine AWi.ret ?_ | refine AWi.skip ?_ | refine AWi.exit ?_); try simp only [thenP]) | (with_reducible refine BB.go ?_; simp only [blockP, thenP, reduceIte]) | (with_reducible refine And.intro (okLog_c (by simp [footOf, guardSlot, slotsOf, idsRead, looks, idsOf, idsOf1, idsWritten, colF]; kernel_rfl)) ?_))
    refine RB.go (by omega) (fun _ _ => rfl) fun rc hrc q => ?_
    have e0 : ¬ n = n + 1 + 1 + 1 + 1 + 1 + 1 + 1 + 1 := by omega
    repeat (first | (with_reducible first | refine AWi.seqK fun _ => ?_ | refine AWi.blockK fun _ => ?_ | refine KI.go ?_) | ((first | refine AWi.region tabOk ?_ | refine AWi.condK fun _ _ => ?_ | refine AWi.draws tabOk rfl (by kernel_rfl) (by kernel_rfl) ?_); simp [-getElem?_pos, z0, z1, z2, h2, e0]) | ((first | refine AWi.ret ?_ | refine AWi.skip ?_ | refine AWi.exit ?_); try simp only [thenP]) | (with_reducible refine BB.go ?_; simp only [blockP, thenP, reduceIte]) | (with_reducible refine And.intro (okLog_c (by simp [footOf, guardSlot, slotsOf, idsRead, looks, idsOf, idsOf1, idsWritten, colF]; kernel_rfl)) ?_))
    refine ExecI.callY (Y := B) (xs := [.d (iD b)]) (hby b (List.mem_of_getElem? hb) _ _ (by omega) (fun j hj => ?_)) rfl (by simp [calleeV, evList]) ?_
    · show (if j = n + 1 + 1 + 1 + 1 + 1 + 1 + 1 + 1 then rc else m2 j) = m j
      rw [if_neg (by omega)]
      exact h1 j hj
    rintro y n3 m3 ⟨k1, k2, rfl⟩
    have k3 : ∀ j, j < n2 → ¬ j = n + 1 + 1 + 1 + 1 + 1 + 1 + 1 + 1 → m3 j = m2 j := fun j j1 j2 => (k2 j (by omega)).trans (if_neg j2)
    have f3 := (k3 _ (by omega) (by omega)).trans h3
    have f4 := (k3 _ (by omega) (by omega)).trans h4
    have f5 := (k3 _ (by omega) (by omega)).trans h5
    have f0 := (k3 _ (by omega) (by omega)).trans h2
    have f1 : ∀ j, j < n → m3 j = m j := fun j hj => (k3 j (by omega) (by omega)).trans (h1 j hj)
    have ke : ∀ j, n + 1 + 1 + 1 + 1 + 1 + 1 + 1 + 1 ≤ j → j < n2 + 1 → m3 j = setMem m2 (n + 1 + 1 + 1 + 1 + 1 + 1 + 1 + 1) rc j := fun j _ j2 => k2 j (by omega)
    simp only [] at f3 f4 f5
    have u1 : ¬ n + 1 = n := by omega
    have u2 : ¬ n + 1 + 1 = n := by omega
    simp [-getElem?_pos, z0, z1, z2]
    cases lf
    · repeat (first | (with_reducible first | refine AWi.seqK fun _ => ?_ | refine AWi.blockK fun _ => ?_ | refine KI.go ?_) | ((first | refine AWi.region tabOk ?_ | refine AWi.condK fun _ _ => ?_ | refine AWi.draws tabOk rfl (by kernel_rfl) (by kernel_rfl) ?_); simp [-getElem?_pos, z0, z1, z2, f3, f4, f5, u1, u2]) | ((first | refine AWi.ret ?_ | refine AWi.skip ?_ | refine AWi.exit ?_); try simp only [thenP]) | (with_reducible refine BB.go ?_; simp only [blockP, thenP, reduceIte]) | (with_reducible refine And.intro (okLog_c (by simp [footOf, guardSlot, slotsOf, idsRead, looks, idsOf, idsOf1, idsWritten, colF]; kernel_rfl)) ?_))
      refine RE.normal (by omega) ?_ ?_
      · intro j j1 j2
        simp [show ¬ j = n + 1 + 1 + 1 by omega, show ¬ j = n + 1 + 1 + 1 + 1 by omega, show ¬ j = n + 1 + 1 + 1 + 1 + 1 by omega]
        exact ke j j1 j2
      · rw [hs, show leastStep cost (lb, lc, false) b = (b, cost b, true) by simp [leastStep]]
        refine ⟨fun j hj => ?_, ?_, ?_, ?_, ?_⟩
        · simp [show ¬ j = n + 1 + 1 + 1 by omega, show ¬ j = n + 1 + 1 + 1 + 1 by omega, show ¬ j = n + 1 + 1 + 1 + 1 + 1 by omega]
          exact f1 j hj
        · simp [show ¬ n = n + 1 + 1 + 1 by omega, show ¬ n = n + 1 + 1 + 1 + 1 by omega, show ¬ n = n + 1 + 1 + 1 + 1 + 1 by omega, f0]
        · simp [u1, u2]
        · simp [u1, u2]
        · simp [u1, u2, bD]
    · by_cases hlt : cost b < lc
      · repeat (first | (with_reducible first | refine AWi.seqK fun _ => ?_ | refine AWi.blockK fun _ => ?_ | refine KI.go ?_) | ((first | refine AWi.region tabOk ?_ | refine AWi.condK fun _ _ => ?_ | refine AWi.draws tabOk rfl (by kernel_rfl) (by kernel_rfl) ?_); simp [-getElem?_pos, z0, z1, z2, f3, f4, f5, hlt, u1, u2]) | ((first | refine AWi.ret ?_ | refine AWi.skip ?_ | refine AWi.exit ?_); try simp only [thenP]) | (with_reducible refine BB.go ?_; simp only [blockP, thenP, reduceIte]) | (with_reducible refine And.intro (okLog_c (by simp [footOf, guardSlot, slotsOf, idsRead, looks, idsOf, idsOf1, idsWritten, colF]; kernel_rfl)) ?_))
        refine RE.normal (by omega) ?_ ?_
        · intro j j1 j2
          simp [show ¬ j = n + 1 + 1 + 1 by omega, show ¬ j = n + 1 + 1 + 1 + 1 by omega, show ¬ j = n + 1 + 1 + 1 + 1 + 1 by omega]
          exact ke j j1 j2
        · rw [hs, show leastStep cost (lb, lc, true) b = (b, cost b, true) by simp [leastStep, hlt]]
          refine ⟨fun j hj => ?_, ?_, ?_, ?_, ?_⟩
          · simp [show ¬ j = n + 1 + 1 + 1 by omega, show ¬ j = n + 1 + 1 + 1 + 1 by omega, show ¬ j = n + 1 + 1 + 1 + 1 + 1 by omega]
            exact f1 j hj
          · simp [show ¬ n = n + 1 + 1 + 1 by omega, show ¬ n = n + 1 + 1 + 1 + 1 by omega, show ¬ n = n + 1 + 1 + 1 + 1 + 1 by omega, f0]
          · simp [u1, u2]
          · simp [u1, u2]
          · simp [u1, u2, bD]
      · repeat (first | (with_reducible first | refine AWi.seqK fun _ => ?_ | refine AWi.blockK fun _ => ?_ | refine KI.go ?_) | ((first | refine AWi.region tabOk ?_ | refine AWi.condK fun _ _ => ?_ | refine AWi.draws tabOk rfl (by kernel_rfl) (by kernel_rfl) ?_); simp [-getElem?_pos, z0, z1, z2, f3, f4, f5, hlt, u1, u2]) | ((first | refine AWi.ret ?_ | refine AWi.skip ?_ | refine AWi.exit ?_); try simp only [thenP]) | (with_reducible refine BB.go ?_; simp only [blockP, thenP, reduceIte]) | (with_reducible refine And.intro (okLog_c (by simp [footOf, guardSlot, slotsOf, idsRead, looks, idsOf, idsOf1, idsWritten, colF]; kernel_rfl)) ?_))
        refine RE.normal (by omega) ke ?_
        rw [hs, show leastStep cost (lb, lc, true) b = (lb, lc, true) by simp [leastStep, hlt]]
        exact ⟨f1, f0, f3, f4, f5⟩
  · rintro n' m' hn' ⟨h1, h2, h3, h4, h5⟩
    simp only [thenP]
    rw [List.length_map, List.take_length] at h3 h4 h5
    repeat (first | (with_reducible first | refine AWi.seqK fun _ => ?_ | refine AWi.blockK fun _ => ?_ | refine KI.go ?_) | ((first | refine AWi.region tabOk ?_ | refine AWi.condK fun _ _ => ?_ | refine AWi.draws tabOk rfl (by kernel_rfl) (by kernel_rfl) ?_); simp [-getElem?_pos, z0, z1, z2, h3, h5]) | ((first | refine AWi.ret ?_ | refine AWi.skip ?_ | refine AWi.exit ?_); try simp only [thenP]) | (with_reducible refine BB.go ?_; simp only [blockP, thenP, reduceIte]) | (with_reducible refine And.intro (okLog_c (by simp [footOf, guardSlot, slotsOf, idsRead, looks, idsOf, idsOf1, idsWritten, colF]; kernel_rfl)) ?_))
    exact RI.ret rfl ⟨by omega, h1, rfl⟩
  · exact fun _ _ _ _ h => h.elim
end Go.Proofs.Ytdkneonokbakjaa.Eng

noncomputable section
namespace Go.Proofs.Ytdkneonokbakjaa.Eng
open Go.RowKit
variable {P : Program} {T : Tab} {r : Option Nat} {ns n : Nat} {s : St}
theorem map_keys {E : Env} {w : World} {i : MapI} {es : List (List Int × SV × Nat)} {ents : Array MapEntry} (h2 : ents.size = es.length) (h4 : ∀ (j : Nat) q e, es[j]? = some q → ents[j]? = some e → e.key = keyVal i.agg i.kk q.1 ∧ e.born = q.2.2 ∧ Rep E w q.2.1 e.val) : ents.toList.map (·.key) = (es.map (·.1)).map (keyVal i.agg i.kk) := by
  apply List.ext_getElem?
  intro j
  simp only [List.getElem?_map, Array.getElem?_toList]
  by_cases hj : j < es.length
  · rw [List.getElem?_eq_getElem hj, Array.getElem?_eq_getElem (show j < ents.size by omega)]
    simp only [Option.map_some]
    rw [(h4 j _ _ (List.getElem?_eq_getElem hj) (Array.getElem?_eq_getElem (show j < ents.size by omega))).1]
  · rw [List.getElem?_eq_none (by omega), Array.getElem?_eq_none (by omega)]
    rfl
def lookV (i : MapI) (es : List (List Int × SV × Nat)) (l : List Int) (ok : Bool) : SV := match (findK l (es.map (·.1)) 0).bind fun j => es[j]? with
  | some q => if ok then .tup [q.2.1, .d (.val (.bool true))] else q.2.1
  | none => if ok then .tup [i.zero, .d (.val (.bool false))] else i.zero
theorem stepI_lookup {M : MTab} (hM : MTabOk P M) {o : Oper} {x y : Operand} {t : TypeId} {ok : Bool} (ho : o.op = .lookup t x y ok) {i : MapI} (hi : M t = some i) {id clock : Nat} {es : List (List Int × SV × Nat)} {kv : SV} {l : List Int}
    (hx : opd ns s x = some (.mp id)) (hm : s.mem id = some (mapB i es clock)) (hy : opd ns s y = some kv) (hl : keyOf i kv = some l) (hlen : es.all (fun q => q.1.length == i.kk.length) = true) :
    StepI P r ns n s o fun n' s' => n' = n ∧ s' = { slots := setSlot s.slots o.dst (lookV i es l ok), mem := s.mem } := by
  intro W0 R0 B E a w hin h hd K Q hK
  refine oper_in (fun c e => by rw [ho] at e; cases e) ?_
  have H := hM t i hi
  obtain ⟨u, hu⟩ : ∃ u, a.eval x = u := ⟨_, rfl⟩
  have hr := h.opd hx
  rw [hu] at hr
  obtain ⟨e1, e2⟩ := keyOf_spec H.one hl (h.opd hy)
  cases hr with
  | mp _ hdm =>
    have Hb := h.mem id _ hm
    cases Hb with
    | map _ _ _ ents h1 h2 h3 =>
      rw [List.length_map] at h2
      have h4 : ∀ (j : Nat) q e, es[j]? = some q → ents[j]? = some e → e.key = keyVal i.agg i.kk q.1 ∧ e.born = q.2.2 ∧ Rep E w q.2.1 e.val := fun j q e hq he => h3 j (keyVal i.agg i.kk q.1, q.2) e (by rw [List.getElem?_map, hq]; rfl) he
      have hks := map_keys h2 h4
      have hf := H.find w l ents.toList (es.map (·.1)) e2 (fun q hq => by
        obtain ⟨p, hp, rfl⟩ := List.mem_map.1 hq
        simpa using List.all_eq_true.1 hlen p hp) hks
      obtain ⟨z, hz1, hz2⟩ := H.zero
      obtain ⟨v, hv1, hv2⟩ : ∃ v, (Instr.lookup t (.map (some (E.home id).blk)) (a.eval y) ok).run P w = .ok v w ∧ Rep E w (lookV i es l ok) v := by
        unfold lookV
        rw [e1]
        cases hq : (findK l (es.map (·.1)) 0).bind fun j => es[j]? with
        | some q =>
          have hq0 := hq
          rw [Option.bind_eq_some_iff] at hq
          obtain ⟨j, hj, hq⟩ := hq
          have hjl : j < ents.size := by have := (List.getElem?_eq_some_iff.1 hq).1; omega
          have he := h4 j q _ hq (Array.getElem?_eq_getElem hjl)
          rw [hj] at hf
          simp only [Option.bind_some, Array.getElem?_toList, Array.getElem?_eq_getElem hjl, Option.map_some] at hf
          refine ⟨if ok then .tuple #[ents[j].val, .bool true] else ents[j].val, ?_, ?_⟩
          · simp [Instr.lookup, run_underlying H.und, MapKept.run_getObj_map h1, H.check _ w l e2, hf]
          · cases ok with
            | true => exact tup2 he.2.2 (rep_val rfl)
            | false => exact he.2.2
        | none =>
          have hf2 : (Instr.findKey i.key (keyVal i.agg i.kk l) ents.toList).run P w = .ok none w := by
            rw [hf]
            congr 1
            cases hj : findK l (es.map (·.1)) 0 with
            | none => rfl
            | some j =>
              rw [hj] at hq
              simp only [Option.bind_some] at hq
              have : es.length ≤ j := by simpa using hq
              simp only [Option.bind_some, Array.getElem?_toList, Array.getElem?_eq_none (show ents.size ≤ j by omega), Option.map_none]
          refine ⟨if ok then .tuple #[z, .bool false] else z, ?_, ?_⟩
          · simp [Instr.lookup, run_underlying H.und, MapKept.run_getObj_map h1, H.check _ w l e2, hf2, hz1 w]
          · cases ok with
            | true => exact tup2 (hz2 E w) (rep_val rfl)
            | false => exact hz2 E w
      have he : (execOp a.eval o).run P w = .ok (.value v) w := by
        simp [execOp, ho, hu, hv1]
      unfold Oper.wp
      rw [he]
      exact hK n _ E _ _ ⟨rfl, rfl⟩ (h.put hd hv2)
theorem insert_run {M : MTab} (hM : MTabOk P M) {W0 : Fix} {R0 D : Nat → Prop} {E : Env} {a : Act} {w : World} (h : Sim W0 R0 ns D s E a w) {o : Oper} {x y z : Operand} {t : TypeId} (ho : o.op = .mapUpdate t x y z ∨ o.op = .insert t x y z) {i : MapI} (hi : M t = some i) {id clock : Nat} {es : List (List Int × SV × Nat)} {kv vv : SV} {l : List Int}
    (hx : opd ns s x = some (.mp id)) (hm : s.mem id = some (mapB i es clock)) (hy : opd ns s y = some kv) (hl : keyOf i kv = some l) (hlen : es.all (fun q => q.1.length == i.kk.length) = true) (hj : findK l (es.map (·.1)) 0 = none) (hz : opd ns s z = some vv) :
    ∃ w', (execOp a.eval o).run P w = .ok .skip w' ∧ Sim W0 R0 ns D ⟨s.slots, setMem s.mem id (some (mapB i (es ++ [(l, vv, clock)]) (clock + 1)))⟩ E a w' := by
  have H := hM t i hi
  obtain ⟨u, hu⟩ : ∃ u, a.eval x = u := ⟨_, rfl⟩
  have hr := h.opd hx
  rw [hu] at hr
  obtain ⟨e1, e2⟩ := keyOf_spec H.one hl (h.opd hy)
  have hzv := h.opd hz
  cases hr with
  | mp _ hdm =>
    have Hb := h.mem id _ hm
    cases Hb with
    | map _ _ _ ents h1 h2 h3 =>
      rw [List.length_map] at h2
      have h4 : ∀ (j : Nat) q e, es[j]? = some q → ents[j]? = some e → e.key = keyVal i.agg i.kk q.1 ∧ e.born = q.2.2 ∧ Rep E w q.2.1 e.val := fun j q e hq he => h3 j (keyVal i.agg i.kk q.1, q.2) e (by rw [List.getElem?_map, hq]; rfl) he
      have hks := map_keys h2 h4
      have hf := H.find w l ents.toList (es.map (·.1)) e2 (fun q hq => by
        obtain ⟨p, hp, rfl⟩ := List.mem_map.1 hq
        simpa using List.all_eq_true.1 hlen p hp) hks
      rw [hj] at hf
      simp only [Option.bind_none] at hf
      have hset : ∀ (es' : Array MapEntry) (c' : Nat), (setObj (E.home id).blk (.map es' c')).run P w = .ok () (w.putObj (E.home id).blk (.map es' c')) := fun es' c' => MapKept.run_setObj_map _ h1
      have hrun : (execOp a.eval o).run P w = .ok .skip (w.putObj (E.home id).blk (.map (ents.push { key := keyVal i.agg i.kk l, val := a.eval z, born := clock }) (clock + 1))) := by
        rcases ho with ho | ho <;> simp [execOp, ho, hu, e1, Instr.mapUpdate, run_underlying H.und, MapKept.run_getObj_map h1, H.check _ w l e2, hf, hset]
      have hro : ¬ E.ro (E.home id).blk := fun k => by have := (h.frz id _ hm).2 k; cases this
      have hlt : (E.home id).blk < w.heap.size := (Array.getElem?_eq_some_iff.1 h1).1
      have hk : ∀ b, E.ro b → (w.putObj (E.home id).blk (.map (ents.push { key := keyVal i.agg i.kk l, val := a.eval z, born := clock }) (clock + 1))).heap[b]? = w.heap[b]? := fun b hb => World.putObj_heap_other fun e => hro (e ▸ hb)
      have key := h.write (b' := mapB i (es ++ [(l, vv, clock)]) (clock + 1)) hm rfl rfl (grownBy_putObj' w (E.home id).blk (.map (ents.push { key := keyVal i.agg i.kk l, val := a.eval z, born := clock }) (clock + 1))) (.map _ _ _ (ents.push { key := keyVal i.agg i.kk l, val := a.eval z, born := clock }) (World.putObj_heap_same hlt) (by simp [h2]) fun k q e hq he => by
        rw [List.getElem?_map, Option.map_eq_some_iff] at hq
        obtain ⟨p, hp, rfl⟩ := hq
        by_cases hk2 : k < es.length
        · rw [List.getElem?_append_left hk2] at hp
          rw [Array.getElem?_push, if_neg (by omega)] at he
          obtain ⟨a1, a2, a3⟩ := h4 k p e hp he
          exact ⟨a1, a2, a3.keep (Env.le.refl E) hk⟩
        · rw [List.getElem?_append_right (by omega)] at hp
          have hk0 : k = es.length := by
            have := (List.getElem?_eq_some_iff.1 hp).1
            simp at this
            omega
          subst hk0
          simp at hp
          rw [Array.getElem?_push, if_pos h2.symm] at he
          cases hp; cases he
          exact ⟨rfl, rfl, hzv.keep (Env.le.refl E) hk⟩)
      exact ⟨_, hrun, key⟩
theorem stepI_insert {M : MTab} (hM : MTabOk P M) {o : Oper} {x y z : Operand} {t : TypeId} (ho : o.op = .mapUpdate t x y z ∨ o.op = .insert t x y z) {i : MapI} (hi : M t = some i) {id clock : Nat} {es : List (List Int × SV × Nat)} {kv vv : SV} {l : List Int}
    (hx : opd ns s x = some (.mp id)) (hm : s.mem id = some (mapB i es clock)) (hy : opd ns s y = some kv) (hl : keyOf i kv = some l) (hlen : es.all (fun q => q.1.length == i.kk.length) = true) (hj : findK l (es.map (·.1)) 0 = none) (hz : opd ns s z = some vv) :
    StepI P r ns n s o fun n' s' => n' = n ∧ s' = { slots := setSlot s.slots o.dst .und, mem := setMem s.mem id (some (mapB i (es ++ [(l, vv, clock)]) (clock + 1))) } := by
  intro W0 R0 B E a w hin h hd K Q hK
  refine oper_in (fun c e => by rcases ho with ho | ho <;> rw [ho] at e <;> cases e) ?_
  obtain ⟨w', hrun, key⟩ := insert_run hM h ho hi hx hm hy hl hlen hj hz
  unfold Oper.wp
  rw [hrun]
  exact hK n _ E _ _ ⟨rfl, rfl⟩ (key.put hd (Rep.und (E := E) (w := w') undef))
theorem ExecS.lookup {M : MTab} (hM : MTabOk P M) {ops : Array Oper} {o : Oper} {lo : List Oper} {Q : Nat → St → Prop} {x y : Operand} {t : TypeId} {ok : Bool} (ho : o.op = .lookup t x y ok) {i : MapI} {id clock : Nat} {es : List (List Int × SV × Nat)} {kv : SV} {l : List Int} (hg : guardS ops ns s o = some true) (hi : M t = some i)
    (hx : opd ns s x = some (.mp id)) (hm : s.mem id = some (mapB i es clock)) (hy : opd ns s y = some kv) (hl : keyOf i kv = some l) (hlen : es.all (fun q => q.1.length == i.kk.length) = true)
    (h : ExecS P r ns ops n lo { slots := setSlot s.slots o.dst (lookV i es l ok), mem := s.mem } Q) : ExecS P r ns ops n (o :: lo) s Q :=
  ⟨hg, _, stepI_lookup hM ho hi hx hm hy hl hlen, fun n' s' ⟨e1, e2⟩ => by rw [e1, e2]; exact h⟩
theorem ExecS.insert {M : MTab} (hM : MTabOk P M) {ops : Array Oper} {o : Oper} {lo : List Oper} {Q : Nat → St → Prop} {x y z : Operand} {t : TypeId} (ho : o.op = .mapUpdate t x y z ∨ o.op = .insert t x y z) {i : MapI} {id clock : Nat} {es : List (List Int × SV × Nat)} {kv vv : SV} {l : List Int} (hg : guardS ops ns s o = some true) (hi : M t = some i)
    (hx : opd ns s x = some (.mp id)) (hm : s.mem id = some (mapB i es clock)) (hy : opd ns s y = some kv) (hl : keyOf i kv = some l) (hlen : es.all (fun q => q.1.length == i.kk.length) = true) (hj : findK l (es.map (·.1)) 0 = none) (hz : opd ns s z = some vv)
    (h : ExecS P r ns ops n lo { slots := setSlot s.slots o.dst .und, mem := setMem s.mem id (some (mapB i (es ++ [(l, vv, clock)]) (clock + 1))) } Q) : ExecS P r ns ops n (o :: lo) s Q :=
  ⟨hg, _, stepI_insert hM ho hi hx hm hy hl hlen hj hz, fun n' s' ⟨e1, e2⟩ => by rw [e1, e2]; exact h⟩
section
variable {l0 : List Oper} {n0 : Nat} {o : Oper} {l : List Oper} {acc : List FtV} {Q : Nat → St → Prop}
end
end Go.Proofs.Ytdkneonokbakjaa.Eng

noncomputable section
namespace Go.Proofs.Ytdkneonokbakjaa.Eng
open Go.RowKit
variable {P : Program} {T : Tab} {r : Option Nat} {ns n : Nat} {s : St}
theorem ExecS.makeMap {ops : Array Oper} {o : Oper} {l : List Oper} {Q : Nat → St → Prop} {t : TypeId} (i : MapI) (hg : guardS ops ns s o = some true) (ho : o.op = .makeMap t none)
    (h : ExecS P r ns ops (n + 1) l ⟨setSlot s.slots o.dst (.mp n), setMem s.mem n (some (mapB i [] 0))⟩ Q) : ExecS P r ns ops n (o :: l) s Q :=
  ⟨hg, fun n' s' => n' = n + 1 ∧ s' = ⟨setSlot s.slots o.dst (.mp n), setMem s.mem n (some (mapB i [] 0))⟩, fun W0 R0 B E a w hin hs hd K1 Q' hK1 => by
    have hDn : ¬ n < n := Nat.lt_irrefl n
    have hb : Below w.heap.size w (w.alloc (.map #[] 0)) := (Below.refl _ _).alloc (Nat.le_refl _) _
    have hro : ∀ b, E.ro b → (w.alloc (.map #[] 0)).heap[b]? = w.heap[b]? := fun b hb' => hb.block b (hs.rlt b hb')
    have key := hs.new (w' := w.alloc (.map #[] 0)) hDn (mapB i [] 0) ⟨w.heap.size, 0, 0⟩ (hs.kept hb) hro (fun k c hk => hb.block _ (hs.mem k c hk).lt) (.map [] 0 false #[] (heap_alloc_new w _) rfl (by simp)) (hs.fresh (Nat.le_refl _)) rfl (fun hk => Nat.lt_irrefl _ (hs.rlt _ hk)) (fun k c hk e => Nat.lt_irrefl _ (e ▸ (hs.mem k c hk).lt))
    have h4 := key.weak (D' := (· < n + 1)) fun i hi => hi.elim (fun e => by subst e; exact Nat.lt_succ_self _) (fun h => Nat.lt_succ_of_lt h)
    have hr : (execOp a.eval o).run P w = .ok (.value (.map (some w.heap.size))) (w.alloc (.map #[] 0)) := by simp [execOp, ho, Instr.makeMap]
    refine oper_in (fun c e => by rw [ho] at e; cases e) ?_
    unfold Oper.wp
    rw [hr]
    refine hK1 (n + 1) _ (E.add n ⟨w.heap.size, 0, 0⟩) _ (w.alloc (.map #[] 0)) ⟨rfl, rfl⟩ ?_
    refine h4.put hd ?_
    have := Rep.mp (E := E.add n ⟨w.heap.size, 0, 0⟩) (w := w.alloc (.map #[] 0)) n (.inl rfl)
    simpa [Env.add] using this, fun n' s' ⟨e1, e2⟩ => by rw [e1, e2]; exact h⟩
end Go.Proofs.Ytdkneonokbakjaa.Eng
