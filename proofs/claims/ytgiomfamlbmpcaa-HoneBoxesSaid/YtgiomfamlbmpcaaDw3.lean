/-
  A part of the texts that the claim builds on: see the last one.
-/
import Derived.Test.YtgiomfamlbmpcaaDw2
import Derived.Test.YtgiomfamlbmpcaaProg
import Derived.Test.YtgiomfamlbmpcaaRows
import Derived.ProofKit
import Derived.OpenShut
import Derived.Below
import Derived.ChangeSame
import Derived.ReadAgain
import Derived.Deep.Slices
set_option linter.unusedSimpArgs false
set_option linter.unusedVariables false
namespace Go.Proofs.Ytgiomfamlbmpcaa.Eng
open Go.RowKit
theorem info1 : (Try.prog.info? 1).map (fun i => (i.zero, i.size, i.bytes)) = some (some (.nilFunc), 1, 8) := by kernel_rfl
theorem ti1 : TiOk Try.prog 1 { size := 1, bytes := 8, zero := [.nilFunc], kind := .cell } := tiOk_mk info1 rfl rfl rfl (by decide) (⟨_, Try.underlying1, fun _ h => TypeDesc.noConfusion h, fun _ _ h => TypeDesc.noConfusion h⟩) (by decide) (fun h => absurd rfl h)
theorem info2 : (Try.prog.info? 2).map (fun i => (i.zero, i.size, i.bytes)) = some (some (.int .i64 0), 1, 8) := by kernel_rfl
theorem ti2 : TiOk Try.prog 2 { size := 1, bytes := 8, zero := [.int .i64 0], kind := .int .i64 } := tiOk_mk info2 rfl rfl rfl (by decide) (Try.underlying2) (by decide) (fun h => absurd rfl h)
theorem info3 : (Try.prog.info? 3).map (fun i => (i.zero, i.size, i.bytes)) = some (some (.int .i64 0), 1, 8) := by kernel_rfl
theorem ti3 : TiOk Try.prog 3 { size := 1, bytes := 8, zero := [.int .i64 0], kind := .int .i64 } := tiOk_mk info3 rfl rfl rfl (by decide) (Try.underlying3) (by decide) (fun h => absurd rfl h)
theorem info4 : (Try.prog.info? 4).map (fun i => (i.zero, i.size, i.bytes)) = some (some (.bool false), 1, 1) := by kernel_rfl
theorem ti4 : TiOk Try.prog 4 { size := 1, bytes := 1, zero := [.bool false], kind := .bool } := tiOk_mk info4 rfl rfl rfl (by decide) (Try.underlying4) (by decide) (fun h => absurd rfl h)
theorem info5 : (Try.prog.info? 5).map (fun i => (i.zero, i.size, i.bytes)) = some (some (.int .u8 0), 1, 1) := by kernel_rfl
theorem ti5 : TiOk Try.prog 5 { size := 1, bytes := 1, zero := [.int .u8 0], kind := .int .u8 } := tiOk_mk info5 rfl rfl rfl (by decide) (Try.underlying5) (by decide) (fun h => absurd rfl h)
theorem info6 : (Try.prog.info? 6).map (fun i => (i.zero, i.size, i.bytes)) = some (some (.int .u8 0), 1, 1) := by kernel_rfl
theorem ti6 : TiOk Try.prog 6 { size := 1, bytes := 1, zero := [.int .u8 0], kind := .int .u8 } := tiOk_mk info6 rfl rfl rfl (by decide) (Try.underlying6) (by decide) (fun h => absurd rfl h)
theorem info7 : (Try.prog.info? 7).map (fun i => (i.zero, i.size, i.bytes)) = some (some (.agg #[.int .i64 0, .int .i64 0, .bool false, .int .u8 0]), 4, 24) := by kernel_rfl
theorem ti7 : TiOk Try.prog 7 { size := 4, bytes := 24, zero := [.int .i64 0, .int .i64 0, .bool false, .int .u8 0], kind := .struct [(0, 2), (1, 3), (2, 4), (3, 6)] } := tiOk_mk info7 rfl rfl rfl (by decide) (⟨_, Try.underlying7, rfl⟩) (by decide) (fun h => absurd rfl h)
theorem info8 : (Try.prog.info? 8).map (fun i => (i.zero, i.size, i.bytes)) = some (some (.agg #[.int .i64 0, .int .i64 0, .bool false, .int .u8 0]), 4, 24) := by kernel_rfl
theorem ti8 : TiOk Try.prog 8 { size := 4, bytes := 24, zero := [.int .i64 0, .int .i64 0, .bool false, .int .u8 0], kind := .struct [(0, 2), (1, 3), (2, 4), (3, 6)] } := tiOk_mk info8 rfl rfl rfl (by decide) (⟨_, Try.underlying8, rfl⟩) (by decide) (fun h => absurd rfl h)
theorem info12 : (Try.prog.info? 12).map (fun i => (i.zero, i.size, i.bytes)) = some (some (.int .u64 0), 1, 8) := by kernel_rfl
theorem ti12 : TiOk Try.prog 12 { size := 1, bytes := 8, zero := [.int .u64 0], kind := .int .u64 } := tiOk_mk info12 rfl rfl rfl (by decide) (Try.underlying12) (by decide) (fun h => absurd rfl h)
theorem info15 : (Try.prog.info? 15).map (fun i => (i.zero, i.size, i.bytes)) = some (some (.pointer none), 1, 8) := by kernel_rfl
theorem ti15 : TiOk Try.prog 15 { size := 1, bytes := 8, zero := [.pointer none], kind := .cell } := tiOk_mk info15 rfl rfl rfl (by decide) (⟨_, Try.underlying15, fun _ h => TypeDesc.noConfusion h, fun _ _ h => TypeDesc.noConfusion h⟩) (by decide) (fun h => absurd rfl h)
theorem info16 : (Try.prog.info? 16).map (fun i => (i.zero, i.size, i.bytes)) = some (some (.pointer none), 1, 8) := by kernel_rfl
theorem ti16 : TiOk Try.prog 16 { size := 1, bytes := 8, zero := [.pointer none], kind := .cell } := tiOk_mk info16 rfl rfl rfl (by decide) (⟨_, Try.underlying16, fun _ h => TypeDesc.noConfusion h, fun _ _ h => TypeDesc.noConfusion h⟩) (by decide) (fun h => absurd rfl h)
theorem info17 : (Try.prog.info? 17).map (fun i => (i.zero, i.size, i.bytes)) = some (some (.pointer none), 1, 8) := by kernel_rfl
theorem ti17 : TiOk Try.prog 17 { size := 1, bytes := 8, zero := [.pointer none], kind := .cell } := tiOk_mk info17 rfl rfl rfl (by decide) (⟨_, Try.underlying17, fun _ h => TypeDesc.noConfusion h, fun _ _ h => TypeDesc.noConfusion h⟩) (by decide) (fun h => absurd rfl h)
theorem info18 : (Try.prog.info? 18).map (fun i => (i.zero, i.size, i.bytes)) = some (some (.agg #[.pointer none]), 1, 8) := by kernel_rfl
theorem ti18 : TiOk Try.prog 18 { size := 1, bytes := 8, zero := [.pointer none], kind := .struct [(0, 17)] } := tiOk_mk info18 rfl rfl rfl (by decide) (⟨_, Try.underlying18, rfl⟩) (by decide) (fun h => absurd rfl h)
theorem info19 : (Try.prog.info? 19).map (fun i => (i.zero, i.size, i.bytes)) = some (some (.agg #[.pointer none]), 1, 8) := by kernel_rfl
theorem ti19 : TiOk Try.prog 19 { size := 1, bytes := 8, zero := [.pointer none], kind := .struct [(0, 17)] } := tiOk_mk info19 rfl rfl rfl (by decide) (⟨_, Try.underlying19, rfl⟩) (by decide) (fun h => absurd rfl h)
theorem info21 : (Try.prog.info? 21).map (fun i => (i.zero, i.size, i.bytes)) = some (some (.int .i32 0), 1, 4) := by kernel_rfl
theorem ti21 : TiOk Try.prog 21 { size := 1, bytes := 4, zero := [.int .i32 0], kind := .int .i32 } := tiOk_mk info21 rfl rfl rfl (by decide) (Try.underlying21) (by decide) (fun h => absurd rfl h)
theorem info22 : (Try.prog.info? 22).map (fun i => (i.zero, i.size, i.bytes)) = some (some (.slice none 0 0), 1, 24) := by kernel_rfl
theorem ti22 : TiOk Try.prog 22 { size := 1, bytes := 24, zero := [.slice none 0 0], kind := .slice 54 } := tiOk_mk info22 rfl rfl rfl (by decide) (Try.underlying22) (by decide) (fun h => absurd rfl h)
theorem info23 : (Try.prog.info? 23).map (fun i => (i.zero, i.size, i.bytes)) = some (some (.agg #[.int .i64 0, .int .i64 0]), 2, 16) := by kernel_rfl
theorem eqs23 (w : World) (x y : Operand) (m n : List Int) (hm : m.length = 2) (hn : n.length = 2) :
    (do eqGuard .eql 23 x y (aggInts [.i64, .i64] m) (aggInts [.i64, .i64] n); binOp .eql 23 (aggInts [.i64, .i64] m) (aggInts [.i64, .i64] n) : Sem Value).run Try.prog w = .ok (.bool (decide (m = n))) w ∧
    (do eqGuard .neq 23 x y (aggInts [.i64, .i64] m) (aggInts [.i64, .i64] n); binOp .neq 23 (aggInts [.i64, .i64] m) (aggInts [.i64, .i64] n) : Sem Value).run Try.prog w = .ok (.bool (decide (m ≠ n))) w := by
  exact eqs_by_2 w x y hm hn (by kernel_rfl) (by kernel_rfl) Try.underlying23 Try.underlying3 Try.underlying3 (by decide)
theorem ti23 : TiOk Try.prog 23 { size := 2, bytes := 16, zero := [.int .i64 0, .int .i64 0], kind := .struct [(0, 3), (1, 3)], eqk := [.i64, .i64] } := tiOk_mk info23 rfl rfl rfl (by decide) (⟨_, Try.underlying23, rfl⟩) (by decide) (fun _ => eqs23)
theorem info24 : (Try.prog.info? 24).map (fun i => (i.zero, i.size, i.bytes)) = some (some (.agg #[.int .i64 0, .int .i64 0]), 2, 16) := by kernel_rfl
theorem eqs24 (w : World) (x y : Operand) (m n : List Int) (hm : m.length = 2) (hn : n.length = 2) :
    (do eqGuard .eql 24 x y (aggInts [.i64, .i64] m) (aggInts [.i64, .i64] n); binOp .eql 24 (aggInts [.i64, .i64] m) (aggInts [.i64, .i64] n) : Sem Value).run Try.prog w = .ok (.bool (decide (m = n))) w ∧
    (do eqGuard .neq 24 x y (aggInts [.i64, .i64] m) (aggInts [.i64, .i64] n); binOp .neq 24 (aggInts [.i64, .i64] m) (aggInts [.i64, .i64] n) : Sem Value).run Try.prog w = .ok (.bool (decide (m ≠ n))) w := by
  exact eqs_by_2 w x y hm hn (by kernel_rfl) (by kernel_rfl) Try.underlying24 Try.underlying3 Try.underlying3 (by decide)
theorem ti24 : TiOk Try.prog 24 { size := 2, bytes := 16, zero := [.int .i64 0, .int .i64 0], kind := .struct [(0, 3), (1, 3)], eqk := [.i64, .i64] } := tiOk_mk info24 rfl rfl rfl (by decide) (⟨_, Try.underlying24, rfl⟩) (by decide) (fun _ => eqs24)
theorem info25 : (Try.prog.info? 25).map (fun i => (i.zero, i.size, i.bytes)) = some (some (.slice none 0 0), 1, 24) := by kernel_rfl
theorem ti25 : TiOk Try.prog 25 { size := 1, bytes := 24, zero := [.slice none 0 0], kind := .slice 3 } := tiOk_mk info25 rfl rfl rfl (by decide) (Try.underlying25) (by decide) (fun h => absurd rfl h)
theorem info26 : (Try.prog.info? 26).map (fun i => (i.zero, i.size, i.bytes)) = some (some (.nilFunc), 1, 8) := by kernel_rfl
theorem ti26 : TiOk Try.prog 26 { size := 1, bytes := 8, zero := [.nilFunc], kind := .cell } := tiOk_mk info26 rfl rfl rfl (by decide) (⟨_, Try.underlying26, fun _ h => TypeDesc.noConfusion h, fun _ _ h => TypeDesc.noConfusion h⟩) (by decide) (fun h => absurd rfl h)
theorem info27 : (Try.prog.info? 27).map (fun i => (i.zero, i.size, i.bytes)) = some (some (.nilFunc), 1, 8) := by kernel_rfl
theorem ti27 : TiOk Try.prog 27 { size := 1, bytes := 8, zero := [.nilFunc], kind := .cell } := tiOk_mk info27 rfl rfl rfl (by decide) (⟨_, Try.underlying27, fun _ h => TypeDesc.noConfusion h, fun _ _ h => TypeDesc.noConfusion h⟩) (by decide) (fun h => absurd rfl h)
theorem info28 : (Try.prog.info? 28).map (fun i => (i.zero, i.size, i.bytes)) = some (some (.int .i64 0), 1, 8) := by kernel_rfl
theorem ti28 : TiOk Try.prog 28 { size := 1, bytes := 8, zero := [.int .i64 0], kind := .int .i64 } := tiOk_mk info28 rfl rfl rfl (by decide) (Try.underlying28) (by decide) (fun h => absurd rfl h)
theorem info30 : (Try.prog.info? 30).map (fun i => (i.zero, i.size, i.bytes)) = some (some (.nilFunc), 1, 8) := by kernel_rfl
theorem ti30 : TiOk Try.prog 30 { size := 1, bytes := 8, zero := [.nilFunc], kind := .cell } := tiOk_mk info30 rfl rfl rfl (by decide) (⟨_, Try.underlying30, fun _ h => TypeDesc.noConfusion h, fun _ _ h => TypeDesc.noConfusion h⟩) (by decide) (fun h => absurd rfl h)
theorem info31 : (Try.prog.info? 31).map (fun i => (i.zero, i.size, i.bytes)) = some (some (.nilFunc), 1, 8) := by kernel_rfl
theorem ti31 : TiOk Try.prog 31 { size := 1, bytes := 8, zero := [.nilFunc], kind := .cell } := tiOk_mk info31 rfl rfl rfl (by decide) (⟨_, Try.underlying31, fun _ h => TypeDesc.noConfusion h, fun _ _ h => TypeDesc.noConfusion h⟩) (by decide) (fun h => absurd rfl h)
theorem info32 : (Try.prog.info? 32).map (fun i => (i.zero, i.size, i.bytes)) = some (some (.nilFunc), 1, 8) := by kernel_rfl
theorem ti32 : TiOk Try.prog 32 { size := 1, bytes := 8, zero := [.nilFunc], kind := .cell } := tiOk_mk info32 rfl rfl rfl (by decide) (⟨_, Try.underlying32, fun _ h => TypeDesc.noConfusion h, fun _ _ h => TypeDesc.noConfusion h⟩) (by decide) (fun h => absurd rfl h)
theorem info34 : (Try.prog.info? 34).map (fun i => (i.zero, i.size, i.bytes)) = some (some (.nilFunc), 1, 8) := by kernel_rfl
theorem ti34 : TiOk Try.prog 34 { size := 1, bytes := 8, zero := [.nilFunc], kind := .cell } := tiOk_mk info34 rfl rfl rfl (by decide) (⟨_, Try.underlying34, fun _ h => TypeDesc.noConfusion h, fun _ _ h => TypeDesc.noConfusion h⟩) (by decide) (fun h => absurd rfl h)
theorem info35 : (Try.prog.info? 35).map (fun i => (i.zero, i.size, i.bytes)) = some (some (.nilFunc), 1, 8) := by kernel_rfl
theorem ti35 : TiOk Try.prog 35 { size := 1, bytes := 8, zero := [.nilFunc], kind := .cell } := tiOk_mk info35 rfl rfl rfl (by decide) (⟨_, Try.underlying35, fun _ h => TypeDesc.noConfusion h, fun _ _ h => TypeDesc.noConfusion h⟩) (by decide) (fun h => absurd rfl h)
theorem info36 : (Try.prog.info? 36).map (fun i => (i.zero, i.size, i.bytes)) = some (some (.nilFunc), 1, 8) := by kernel_rfl
theorem ti36 : TiOk Try.prog 36 { size := 1, bytes := 8, zero := [.nilFunc], kind := .cell } := tiOk_mk info36 rfl rfl rfl (by decide) (⟨_, Try.underlying36, fun _ h => TypeDesc.noConfusion h, fun _ _ h => TypeDesc.noConfusion h⟩) (by decide) (fun h => absurd rfl h)
theorem info37 : (Try.prog.info? 37).map (fun i => (i.zero, i.size, i.bytes)) = some (some (.slice none 0 0), 1, 24) := by kernel_rfl
theorem ti37 : TiOk Try.prog 37 { size := 1, bytes := 24, zero := [.slice none 0 0], kind := .slice 25 } := tiOk_mk info37 rfl rfl rfl (by decide) (Try.underlying37) (by decide) (fun h => absurd rfl h)
theorem info38 : (Try.prog.info? 38).map (fun i => (i.zero, i.size, i.bytes)) = some (some (.nilFunc), 1, 8) := by kernel_rfl
theorem ti38 : TiOk Try.prog 38 { size := 1, bytes := 8, zero := [.nilFunc], kind := .cell } := tiOk_mk info38 rfl rfl rfl (by decide) (⟨_, Try.underlying38, fun _ h => TypeDesc.noConfusion h, fun _ _ h => TypeDesc.noConfusion h⟩) (by decide) (fun h => absurd rfl h)
theorem info40 : (Try.prog.info? 40).map (fun i => (i.zero, i.size, i.bytes)) = some (some (.nilFunc), 1, 8) := by kernel_rfl
theorem ti40 : TiOk Try.prog 40 { size := 1, bytes := 8, zero := [.nilFunc], kind := .cell } := tiOk_mk info40 rfl rfl rfl (by decide) (⟨_, Try.underlying40, fun _ h => TypeDesc.noConfusion h, fun _ _ h => TypeDesc.noConfusion h⟩) (by decide) (fun h => absurd rfl h)
theorem info41 : (Try.prog.info? 41).map (fun i => (i.zero, i.size, i.bytes)) = some (some (.nilFunc), 1, 8) := by kernel_rfl
theorem ti41 : TiOk Try.prog 41 { size := 1, bytes := 8, zero := [.nilFunc], kind := .cell } := tiOk_mk info41 rfl rfl rfl (by decide) (⟨_, Try.underlying41, fun _ h => TypeDesc.noConfusion h, fun _ _ h => TypeDesc.noConfusion h⟩) (by decide) (fun h => absurd rfl h)
theorem info42 : (Try.prog.info? 42).map (fun i => (i.zero, i.size, i.bytes)) = some (some (.nilFunc), 1, 8) := by kernel_rfl
theorem ti42 : TiOk Try.prog 42 { size := 1, bytes := 8, zero := [.nilFunc], kind := .cell } := tiOk_mk info42 rfl rfl rfl (by decide) (⟨_, Try.underlying42, fun _ h => TypeDesc.noConfusion h, fun _ _ h => TypeDesc.noConfusion h⟩) (by decide) (fun h => absurd rfl h)
theorem info43 : (Try.prog.info? 43).map (fun i => (i.zero, i.size, i.bytes)) = some (some (.nilFunc), 1, 8) := by kernel_rfl
theorem ti43 : TiOk Try.prog 43 { size := 1, bytes := 8, zero := [.nilFunc], kind := .cell } := tiOk_mk info43 rfl rfl rfl (by decide) (⟨_, Try.underlying43, fun _ h => TypeDesc.noConfusion h, fun _ _ h => TypeDesc.noConfusion h⟩) (by decide) (fun h => absurd rfl h)
theorem info44 : (Try.prog.info? 44).map (fun i => (i.zero, i.size, i.bytes)) = some (some (.nilFunc), 1, 8) := by kernel_rfl
theorem ti44 : TiOk Try.prog 44 { size := 1, bytes := 8, zero := [.nilFunc], kind := .cell } := tiOk_mk info44 rfl rfl rfl (by decide) (⟨_, Try.underlying44, fun _ h => TypeDesc.noConfusion h, fun _ _ h => TypeDesc.noConfusion h⟩) (by decide) (fun h => absurd rfl h)
theorem info45 : (Try.prog.info? 45).map (fun i => (i.zero, i.size, i.bytes)) = some (some (.nilFunc), 1, 8) := by kernel_rfl
theorem ti45 : TiOk Try.prog 45 { size := 1, bytes := 8, zero := [.nilFunc], kind := .cell } := tiOk_mk info45 rfl rfl rfl (by decide) (⟨_, Try.underlying45, fun _ h => TypeDesc.noConfusion h, fun _ _ h => TypeDesc.noConfusion h⟩) (by decide) (fun h => absurd rfl h)
theorem info46 : (Try.prog.info? 46).map (fun i => (i.zero, i.size, i.bytes)) = some (some (.nilFunc), 1, 8) := by kernel_rfl
theorem ti46 : TiOk Try.prog 46 { size := 1, bytes := 8, zero := [.nilFunc], kind := .cell } := tiOk_mk info46 rfl rfl rfl (by decide) (⟨_, Try.underlying46, fun _ h => TypeDesc.noConfusion h, fun _ _ h => TypeDesc.noConfusion h⟩) (by decide) (fun h => absurd rfl h)
theorem info47 : (Try.prog.info? 47).map (fun i => (i.zero, i.size, i.bytes)) = some (some (.nilFunc), 1, 8) := by kernel_rfl
theorem ti47 : TiOk Try.prog 47 { size := 1, bytes := 8, zero := [.nilFunc], kind := .cell } := tiOk_mk info47 rfl rfl rfl (by decide) (⟨_, Try.underlying47, fun _ h => TypeDesc.noConfusion h, fun _ _ h => TypeDesc.noConfusion h⟩) (by decide) (fun h => absurd rfl h)
theorem info48 : (Try.prog.info? 48).map (fun i => (i.zero, i.size, i.bytes)) = some (some (.nilFunc), 1, 8) := by kernel_rfl
theorem ti48 : TiOk Try.prog 48 { size := 1, bytes := 8, zero := [.nilFunc], kind := .cell } := tiOk_mk info48 rfl rfl rfl (by decide) (⟨_, Try.underlying48, fun _ h => TypeDesc.noConfusion h, fun _ _ h => TypeDesc.noConfusion h⟩) (by decide) (fun h => absurd rfl h)
theorem info49 : (Try.prog.info? 49).map (fun i => (i.zero, i.size, i.bytes)) = some (some (.nilFunc), 1, 8) := by kernel_rfl
theorem ti49 : TiOk Try.prog 49 { size := 1, bytes := 8, zero := [.nilFunc], kind := .cell } := tiOk_mk info49 rfl rfl rfl (by decide) (⟨_, Try.underlying49, fun _ h => TypeDesc.noConfusion h, fun _ _ h => TypeDesc.noConfusion h⟩) (by decide) (fun h => absurd rfl h)
theorem info50 : (Try.prog.info? 50).map (fun i => (i.zero, i.size, i.bytes)) = some (some (.nilFunc), 1, 8) := by kernel_rfl
theorem ti50 : TiOk Try.prog 50 { size := 1, bytes := 8, zero := [.nilFunc], kind := .cell } := tiOk_mk info50 rfl rfl rfl (by decide) (⟨_, Try.underlying50, fun _ h => TypeDesc.noConfusion h, fun _ _ h => TypeDesc.noConfusion h⟩) (by decide) (fun h => absurd rfl h)
theorem info51 : (Try.prog.info? 51).map (fun i => (i.zero, i.size, i.bytes)) = some (some (.nilFunc), 1, 8) := by kernel_rfl
theorem ti51 : TiOk Try.prog 51 { size := 1, bytes := 8, zero := [.nilFunc], kind := .cell } := tiOk_mk info51 rfl rfl rfl (by decide) (⟨_, Try.underlying51, fun _ h => TypeDesc.noConfusion h, fun _ _ h => TypeDesc.noConfusion h⟩) (by decide) (fun h => absurd rfl h)
theorem info52 : (Try.prog.info? 52).map (fun i => (i.zero, i.size, i.bytes)) = some (some (.agg #[.int .u8 0, .int .u8 0]), 2, 2) := by kernel_rfl
theorem eqs52 (w : World) (x y : Operand) (m n : List Int) (hm : m.length = 2) (hn : n.length = 2) :
    (do eqGuard .eql 52 x y (aggInts [.u8, .u8] m) (aggInts [.u8, .u8] n); binOp .eql 52 (aggInts [.u8, .u8] m) (aggInts [.u8, .u8] n) : Sem Value).run Try.prog w = .ok (.bool (decide (m = n))) w ∧
    (do eqGuard .neq 52 x y (aggInts [.u8, .u8] m) (aggInts [.u8, .u8] n); binOp .neq 52 (aggInts [.u8, .u8] m) (aggInts [.u8, .u8] n) : Sem Value).run Try.prog w = .ok (.bool (decide (m ≠ n))) w :=
  eqs_by_arr (N := 2) w x y hm hn (by kernel_rfl) Try.underlying52 Try.underlying5 (i := (Try.prog.info? 5).getD default) (by kernel_rfl) (by decide +kernel)
theorem ti52 : TiOk Try.prog 52 { size := 2, bytes := 2, zero := [.int .u8 0, .int .u8 0], kind := .array 2 5, eqk := [.u8, .u8] } := tiOk_mk info52 rfl rfl rfl (by decide) (Try.underlying52) (by decide) (fun _ => eqs52)
theorem info53 : (Try.prog.info? 53).map (fun i => (i.zero, i.size, i.bytes)) = some (some (.agg #[.int .i64 0, .int .i64 0, .int .i64 0]), 3, 24) := by kernel_rfl
theorem eqs53 (w : World) (x y : Operand) (m n : List Int) (hm : m.length = 3) (hn : n.length = 3) :
    (do eqGuard .eql 53 x y (aggInts [.i64, .i64, .i64] m) (aggInts [.i64, .i64, .i64] n); binOp .eql 53 (aggInts [.i64, .i64, .i64] m) (aggInts [.i64, .i64, .i64] n) : Sem Value).run Try.prog w = .ok (.bool (decide (m = n))) w ∧
    (do eqGuard .neq 53 x y (aggInts [.i64, .i64, .i64] m) (aggInts [.i64, .i64, .i64] n); binOp .neq 53 (aggInts [.i64, .i64, .i64] m) (aggInts [.i64, .i64, .i64] n) : Sem Value).run Try.prog w = .ok (.bool (decide (m ≠ n))) w := by
  exact eqs_by_3 w x y hm hn (by kernel_rfl) (by kernel_rfl) Try.underlying53 Try.underlying3 Try.underlying3 Try.underlying3 (by decide)
theorem ti53 : TiOk Try.prog 53 { size := 3, bytes := 24, zero := [.int .i64 0, .int .i64 0, .int .i64 0], kind := .struct [(0, 3), (1, 3), (2, 3)], eqk := [.i64, .i64, .i64] } := tiOk_mk info53 rfl rfl rfl (by decide) (⟨_, Try.underlying53, rfl⟩) (by decide) (fun _ => eqs53)
theorem info54 : (Try.prog.info? 54).map (fun i => (i.zero, i.size, i.bytes)) = some (some (.agg #[.int .i64 0, .int .i64 0, .int .i64 0]), 3, 24) := by kernel_rfl
theorem eqs54 (w : World) (x y : Operand) (m n : List Int) (hm : m.length = 3) (hn : n.length = 3) :
    (do eqGuard .eql 54 x y (aggInts [.i64, .i64, .i64] m) (aggInts [.i64, .i64, .i64] n); binOp .eql 54 (aggInts [.i64, .i64, .i64] m) (aggInts [.i64, .i64, .i64] n) : Sem Value).run Try.prog w = .ok (.bool (decide (m = n))) w ∧
    (do eqGuard .neq 54 x y (aggInts [.i64, .i64, .i64] m) (aggInts [.i64, .i64, .i64] n); binOp .neq 54 (aggInts [.i64, .i64, .i64] m) (aggInts [.i64, .i64, .i64] n) : Sem Value).run Try.prog w = .ok (.bool (decide (m ≠ n))) w := by
  exact eqs_by_3 w x y hm hn (by kernel_rfl) (by kernel_rfl) Try.underlying54 Try.underlying3 Try.underlying3 Try.underlying3 (by decide)
theorem ti54 : TiOk Try.prog 54 { size := 3, bytes := 24, zero := [.int .i64 0, .int .i64 0, .int .i64 0], kind := .struct [(0, 3), (1, 3), (2, 3)], eqk := [.i64, .i64, .i64] } := tiOk_mk info54 rfl rfl rfl (by decide) (⟨_, Try.underlying54, rfl⟩) (by decide) (fun _ => eqs54)
theorem info55 : (Try.prog.info? 55).map (fun i => (i.zero, i.size, i.bytes)) = some (some (.nilFunc), 1, 8) := by kernel_rfl
theorem ti55 : TiOk Try.prog 55 { size := 1, bytes := 8, zero := [.nilFunc], kind := .cell } := tiOk_mk info55 rfl rfl rfl (by decide) (⟨_, Try.underlying55, fun _ h => TypeDesc.noConfusion h, fun _ _ h => TypeDesc.noConfusion h⟩) (by decide) (fun h => absurd rfl h)
theorem info57 : (Try.prog.info? 57).map (fun i => (i.zero, i.size, i.bytes)) = some (some (.nilFunc), 1, 8) := by kernel_rfl
theorem ti57 : TiOk Try.prog 57 { size := 1, bytes := 8, zero := [.nilFunc], kind := .cell } := tiOk_mk info57 rfl rfl rfl (by decide) (⟨_, Try.underlying57, fun _ h => TypeDesc.noConfusion h, fun _ _ h => TypeDesc.noConfusion h⟩) (by decide) (fun h => absurd rfl h)
theorem info58 : (Try.prog.info? 58).map (fun i => (i.zero, i.size, i.bytes)) = some (some (.nilFunc), 1, 8) := by kernel_rfl
theorem ti58 : TiOk Try.prog 58 { size := 1, bytes := 8, zero := [.nilFunc], kind := .cell } := tiOk_mk info58 rfl rfl rfl (by decide) (⟨_, Try.underlying58, fun _ h => TypeDesc.noConfusion h, fun _ _ h => TypeDesc.noConfusion h⟩) (by decide) (fun h => absurd rfl h)
theorem info59 : (Try.prog.info? 59).map (fun i => (i.zero, i.size, i.bytes)) = some (some (.nilFunc), 1, 8) := by kernel_rfl
theorem ti59 : TiOk Try.prog 59 { size := 1, bytes := 8, zero := [.nilFunc], kind := .cell } := tiOk_mk info59 rfl rfl rfl (by decide) (⟨_, Try.underlying59, fun _ h => TypeDesc.noConfusion h, fun _ _ h => TypeDesc.noConfusion h⟩) (by decide) (fun h => absurd rfl h)
theorem info60 : (Try.prog.info? 60).map (fun i => (i.zero, i.size, i.bytes)) = some (some (.nilFunc), 1, 8) := by kernel_rfl
theorem ti60 : TiOk Try.prog 60 { size := 1, bytes := 8, zero := [.nilFunc], kind := .cell } := tiOk_mk info60 rfl rfl rfl (by decide) (⟨_, Try.underlying60, fun _ h => TypeDesc.noConfusion h, fun _ _ h => TypeDesc.noConfusion h⟩) (by decide) (fun h => absurd rfl h)
theorem info61 : (Try.prog.info? 61).map (fun i => (i.zero, i.size, i.bytes)) = some (some (.nilFunc), 1, 8) := by kernel_rfl
theorem ti61 : TiOk Try.prog 61 { size := 1, bytes := 8, zero := [.nilFunc], kind := .cell } := tiOk_mk info61 rfl rfl rfl (by decide) (⟨_, Try.underlying61, fun _ h => TypeDesc.noConfusion h, fun _ _ h => TypeDesc.noConfusion h⟩) (by decide) (fun h => absurd rfl h)
theorem info62 : (Try.prog.info? 62).map (fun i => (i.zero, i.size, i.bytes)) = some (some (.nilFunc), 1, 8) := by kernel_rfl
theorem ti62 : TiOk Try.prog 62 { size := 1, bytes := 8, zero := [.nilFunc], kind := .cell } := tiOk_mk info62 rfl rfl rfl (by decide) (⟨_, Try.underlying62, fun _ h => TypeDesc.noConfusion h, fun _ _ h => TypeDesc.noConfusion h⟩) (by decide) (fun h => absurd rfl h)
theorem info63 : (Try.prog.info? 63).map (fun i => (i.zero, i.size, i.bytes)) = some (some (.nilFunc), 1, 8) := by kernel_rfl
theorem ti63 : TiOk Try.prog 63 { size := 1, bytes := 8, zero := [.nilFunc], kind := .cell } := tiOk_mk info63 rfl rfl rfl (by decide) (⟨_, Try.underlying63, fun _ h => TypeDesc.noConfusion h, fun _ _ h => TypeDesc.noConfusion h⟩) (by decide) (fun h => absurd rfl h)
theorem info64 : (Try.prog.info? 64).map (fun i => (i.zero, i.size, i.bytes)) = some (some (.agg #[.slice none 0 0]), 1, 24) := by kernel_rfl
theorem ti64 : TiOk Try.prog 64 { size := 1, bytes := 24, zero := [.slice none 0 0], kind := .struct [(0, 22)] } := tiOk_mk info64 rfl rfl rfl (by decide) (⟨_, Try.underlying64, rfl⟩) (by decide) (fun h => absurd rfl h)
theorem info65 : (Try.prog.info? 65).map (fun i => (i.zero, i.size, i.bytes)) = some (some (.agg #[.slice none 0 0]), 1, 24) := by kernel_rfl
theorem ti65 : TiOk Try.prog 65 { size := 1, bytes := 24, zero := [.slice none 0 0], kind := .struct [(0, 22)] } := tiOk_mk info65 rfl rfl rfl (by decide) (⟨_, Try.underlying65, rfl⟩) (by decide) (fun h => absurd rfl h)
theorem info67 : (Try.prog.info? 67).map (fun i => (i.zero, i.size, i.bytes)) = some (some (.nilFunc), 1, 8) := by kernel_rfl
theorem ti67 : TiOk Try.prog 67 { size := 1, bytes := 8, zero := [.nilFunc], kind := .cell } := tiOk_mk info67 rfl rfl rfl (by decide) (⟨_, Try.underlying67, fun _ h => TypeDesc.noConfusion h, fun _ _ h => TypeDesc.noConfusion h⟩) (by decide) (fun h => absurd rfl h)
theorem info68 : (Try.prog.info? 68).map (fun i => (i.zero, i.size, i.bytes)) = some (some (.nilFunc), 1, 8) := by kernel_rfl
theorem ti68 : TiOk Try.prog 68 { size := 1, bytes := 8, zero := [.nilFunc], kind := .cell } := tiOk_mk info68 rfl rfl rfl (by decide) (⟨_, Try.underlying68, fun _ h => TypeDesc.noConfusion h, fun _ _ h => TypeDesc.noConfusion h⟩) (by decide) (fun h => absurd rfl h)
theorem info70 : (Try.prog.info? 70).map (fun i => (i.zero, i.size, i.bytes)) = some (some (.nilFunc), 1, 8) := by kernel_rfl
theorem ti70 : TiOk Try.prog 70 { size := 1, bytes := 8, zero := [.nilFunc], kind := .cell } := tiOk_mk info70 rfl rfl rfl (by decide) (⟨_, Try.underlying70, fun _ h => TypeDesc.noConfusion h, fun _ _ h => TypeDesc.noConfusion h⟩) (by decide) (fun h => absurd rfl h)
theorem info71 : (Try.prog.info? 71).map (fun i => (i.zero, i.size, i.bytes)) = some (some (.nilFunc), 1, 8) := by kernel_rfl
theorem ti71 : TiOk Try.prog 71 { size := 1, bytes := 8, zero := [.nilFunc], kind := .cell } := tiOk_mk info71 rfl rfl rfl (by decide) (⟨_, Try.underlying71, fun _ h => TypeDesc.noConfusion h, fun _ _ h => TypeDesc.noConfusion h⟩) (by decide) (fun h => absurd rfl h)
theorem info72 : (Try.prog.info? 72).map (fun i => (i.zero, i.size, i.bytes)) = some (some (.nilFunc), 1, 8) := by kernel_rfl
theorem ti72 : TiOk Try.prog 72 { size := 1, bytes := 8, zero := [.nilFunc], kind := .cell } := tiOk_mk info72 rfl rfl rfl (by decide) (⟨_, Try.underlying72, fun _ h => TypeDesc.noConfusion h, fun _ _ h => TypeDesc.noConfusion h⟩) (by decide) (fun h => absurd rfl h)
theorem info73 : (Try.prog.info? 73).map (fun i => (i.zero, i.size, i.bytes)) = some (some (.pointer none), 1, 8) := by kernel_rfl
theorem ti73 : TiOk Try.prog 73 { size := 1, bytes := 8, zero := [.pointer none], kind := .cell } := tiOk_mk info73 rfl rfl rfl (by decide) (⟨_, Try.underlying73, fun _ h => TypeDesc.noConfusion h, fun _ _ h => TypeDesc.noConfusion h⟩) (by decide) (fun h => absurd rfl h)
theorem info75 : (Try.prog.info? 75).map (fun i => (i.zero, i.size, i.bytes)) = some (some (.nilFunc), 1, 8) := by kernel_rfl
theorem ti75 : TiOk Try.prog 75 { size := 1, bytes := 8, zero := [.nilFunc], kind := .cell } := tiOk_mk info75 rfl rfl rfl (by decide) (⟨_, Try.underlying75, fun _ h => TypeDesc.noConfusion h, fun _ _ h => TypeDesc.noConfusion h⟩) (by decide) (fun h => absurd rfl h)
theorem info76 : (Try.prog.info? 76).map (fun i => (i.zero, i.size, i.bytes)) = some (some (.nilFunc), 1, 8) := by kernel_rfl
theorem ti76 : TiOk Try.prog 76 { size := 1, bytes := 8, zero := [.nilFunc], kind := .cell } := tiOk_mk info76 rfl rfl rfl (by decide) (⟨_, Try.underlying76, fun _ h => TypeDesc.noConfusion h, fun _ _ h => TypeDesc.noConfusion h⟩) (by decide) (fun h => absurd rfl h)
theorem info77 : (Try.prog.info? 77).map (fun i => (i.zero, i.size, i.bytes)) = some (some (.nilFunc), 1, 8) := by kernel_rfl
theorem ti77 : TiOk Try.prog 77 { size := 1, bytes := 8, zero := [.nilFunc], kind := .cell } := tiOk_mk info77 rfl rfl rfl (by decide) (⟨_, Try.underlying77, fun _ h => TypeDesc.noConfusion h, fun _ _ h => TypeDesc.noConfusion h⟩) (by decide) (fun h => absurd rfl h)
theorem info78 : (Try.prog.info? 78).map (fun i => (i.zero, i.size, i.bytes)) = some (some (.nilFunc), 1, 8) := by kernel_rfl
theorem ti78 : TiOk Try.prog 78 { size := 1, bytes := 8, zero := [.nilFunc], kind := .cell } := tiOk_mk info78 rfl rfl rfl (by decide) (⟨_, Try.underlying78, fun _ h => TypeDesc.noConfusion h, fun _ _ h => TypeDesc.noConfusion h⟩) (by decide) (fun h => absurd rfl h)
theorem info79 : (Try.prog.info? 79).map (fun i => (i.zero, i.size, i.bytes)) = some (some (.slice none 0 0), 1, 24) := by kernel_rfl
theorem ti79 : TiOk Try.prog 79 { size := 1, bytes := 24, zero := [.slice none 0 0], kind := .slice 83 } := tiOk_mk info79 rfl rfl rfl (by decide) (Try.underlying79) (by decide) (fun h => absurd rfl h)
theorem info80 : (Try.prog.info? 80).map (fun i => (i.zero, i.size, i.bytes)) = some (some (.agg #[.slice none 0 0, .slice none 0 0]), 2, 48) := by kernel_rfl
theorem ti80 : TiOk Try.prog 80 { size := 2, bytes := 48, zero := [.slice none 0 0, .slice none 0 0], kind := .struct [(0, 65), (1, 79)] } := tiOk_mk info80 rfl rfl rfl (by decide) (⟨_, Try.underlying80, rfl⟩) (by decide) (fun h => absurd rfl h)
theorem info81 : (Try.prog.info? 81).map (fun i => (i.zero, i.size, i.bytes)) = some (some (.agg #[.slice none 0 0, .slice none 0 0]), 2, 48) := by kernel_rfl
theorem ti81 : TiOk Try.prog 81 { size := 2, bytes := 48, zero := [.slice none 0 0, .slice none 0 0], kind := .struct [(0, 65), (1, 79)] } := tiOk_mk info81 rfl rfl rfl (by decide) (⟨_, Try.underlying81, rfl⟩) (by decide) (fun h => absurd rfl h)
theorem info82 : (Try.prog.info? 82).map (fun i => (i.zero, i.size, i.bytes)) = some (some (.agg #[.int .i64 0, .int .i64 0, .int .i64 0, .int .i64 0, .int .i64 0, .int .i64 0, .int .i64 0]), 7, 56) := by kernel_rfl
theorem eqs82 (w : World) (x y : Operand) (m n : List Int) (hm : m.length = 7) (hn : n.length = 7) :
    (do eqGuard .eql 82 x y (aggInts [.i64, .i64, .i64, .i64, .i64, .i64, .i64] m) (aggInts [.i64, .i64, .i64, .i64, .i64, .i64, .i64] n); binOp .eql 82 (aggInts [.i64, .i64, .i64, .i64, .i64, .i64, .i64] m) (aggInts [.i64, .i64, .i64, .i64, .i64, .i64, .i64] n) : Sem Value).run Try.prog w = .ok (.bool (decide (m = n))) w ∧
    (do eqGuard .neq 82 x y (aggInts [.i64, .i64, .i64, .i64, .i64, .i64, .i64] m) (aggInts [.i64, .i64, .i64, .i64, .i64, .i64, .i64] n); binOp .neq 82 (aggInts [.i64, .i64, .i64, .i64, .i64, .i64, .i64] m) (aggInts [.i64, .i64, .i64, .i64, .i64, .i64, .i64] n) : Sem Value).run Try.prog w = .ok (.bool (decide (m ≠ n))) w :=
  eqs_by_arr (N := 7) w x y hm hn (by kernel_rfl) Try.underlying82 Try.underlying3 (i := (Try.prog.info? 3).getD default) (by kernel_rfl) (by decide +kernel)
theorem ti82 : TiOk Try.prog 82 { size := 7, bytes := 56, zero := [.int .i64 0, .int .i64 0, .int .i64 0, .int .i64 0, .int .i64 0, .int .i64 0, .int .i64 0], kind := .array 7 3, eqk := [.i64, .i64, .i64, .i64, .i64, .i64, .i64] } := tiOk_mk info82 rfl rfl rfl (by decide) (Try.underlying82) (by decide) (fun _ => eqs82)
theorem info83 : (Try.prog.info? 83).map (fun i => (i.zero, i.size, i.bytes)) = some (some (.agg #[.int .i64 0, .int .i64 0, .int .i64 0, .int .i64 0, .int .i64 0, .int .i64 0, .int .i64 0]), 7, 56) := by kernel_rfl
theorem eqs83 (w : World) (x y : Operand) (m n : List Int) (hm : m.length = 7) (hn : n.length = 7) :
    (do eqGuard .eql 83 x y (aggInts [.i64, .i64, .i64, .i64, .i64, .i64, .i64] m) (aggInts [.i64, .i64, .i64, .i64, .i64, .i64, .i64] n); binOp .eql 83 (aggInts [.i64, .i64, .i64, .i64, .i64, .i64, .i64] m) (aggInts [.i64, .i64, .i64, .i64, .i64, .i64, .i64] n) : Sem Value).run Try.prog w = .ok (.bool (decide (m = n))) w ∧
    (do eqGuard .neq 83 x y (aggInts [.i64, .i64, .i64, .i64, .i64, .i64, .i64] m) (aggInts [.i64, .i64, .i64, .i64, .i64, .i64, .i64] n); binOp .neq 83 (aggInts [.i64, .i64, .i64, .i64, .i64, .i64, .i64] m) (aggInts [.i64, .i64, .i64, .i64, .i64, .i64, .i64] n) : Sem Value).run Try.prog w = .ok (.bool (decide (m ≠ n))) w :=
  eqs_by_arr (N := 7) w x y hm hn (by kernel_rfl) Try.underlying83 Try.underlying3 (i := (Try.prog.info? 3).getD default) (by kernel_rfl) (by decide +kernel)
theorem ti83 : TiOk Try.prog 83 { size := 7, bytes := 56, zero := [.int .i64 0, .int .i64 0, .int .i64 0, .int .i64 0, .int .i64 0, .int .i64 0, .int .i64 0], kind := .array 7 3, eqk := [.i64, .i64, .i64, .i64, .i64, .i64, .i64] } := tiOk_mk info83 rfl rfl rfl (by decide) (Try.underlying83) (by decide) (fun _ => eqs83)
theorem info84 : (Try.prog.info? 84).map (fun i => (i.zero, i.size, i.bytes)) = some (some (.nilFunc), 1, 8) := by kernel_rfl
theorem ti84 : TiOk Try.prog 84 { size := 1, bytes := 8, zero := [.nilFunc], kind := .cell } := tiOk_mk info84 rfl rfl rfl (by decide) (⟨_, Try.underlying84, fun _ h => TypeDesc.noConfusion h, fun _ _ h => TypeDesc.noConfusion h⟩) (by decide) (fun h => absurd rfl h)
theorem info85 : (Try.prog.info? 85).map (fun i => (i.zero, i.size, i.bytes)) = some (some (.nilFunc), 1, 8) := by kernel_rfl
theorem ti85 : TiOk Try.prog 85 { size := 1, bytes := 8, zero := [.nilFunc], kind := .cell } := tiOk_mk info85 rfl rfl rfl (by decide) (⟨_, Try.underlying85, fun _ h => TypeDesc.noConfusion h, fun _ _ h => TypeDesc.noConfusion h⟩) (by decide) (fun h => absurd rfl h)
theorem info87 : (Try.prog.info? 87).map (fun i => (i.zero, i.size, i.bytes)) = some (some (.nilFunc), 1, 8) := by kernel_rfl
theorem ti87 : TiOk Try.prog 87 { size := 1, bytes := 8, zero := [.nilFunc], kind := .cell } := tiOk_mk info87 rfl rfl rfl (by decide) (⟨_, Try.underlying87, fun _ h => TypeDesc.noConfusion h, fun _ _ h => TypeDesc.noConfusion h⟩) (by decide) (fun h => absurd rfl h)
theorem info88 : (Try.prog.info? 88).map (fun i => (i.zero, i.size, i.bytes)) = some (some (.nilFunc), 1, 8) := by kernel_rfl
theorem ti88 : TiOk Try.prog 88 { size := 1, bytes := 8, zero := [.nilFunc], kind := .cell } := tiOk_mk info88 rfl rfl rfl (by decide) (⟨_, Try.underlying88, fun _ h => TypeDesc.noConfusion h, fun _ _ h => TypeDesc.noConfusion h⟩) (by decide) (fun h => absurd rfl h)
theorem info89 : (Try.prog.info? 89).map (fun i => (i.zero, i.size, i.bytes)) = some (some (.nilFunc), 1, 8) := by kernel_rfl
theorem ti89 : TiOk Try.prog 89 { size := 1, bytes := 8, zero := [.nilFunc], kind := .cell } := tiOk_mk info89 rfl rfl rfl (by decide) (⟨_, Try.underlying89, fun _ h => TypeDesc.noConfusion h, fun _ _ h => TypeDesc.noConfusion h⟩) (by decide) (fun h => absurd rfl h)
theorem info90 : (Try.prog.info? 90).map (fun i => (i.zero, i.size, i.bytes)) = some (some (.nilFunc), 1, 8) := by kernel_rfl
theorem ti90 : TiOk Try.prog 90 { size := 1, bytes := 8, zero := [.nilFunc], kind := .cell } := tiOk_mk info90 rfl rfl rfl (by decide) (⟨_, Try.underlying90, fun _ h => TypeDesc.noConfusion h, fun _ _ h => TypeDesc.noConfusion h⟩) (by decide) (fun h => absurd rfl h)
theorem info91 : (Try.prog.info? 91).map (fun i => (i.zero, i.size, i.bytes)) = some (some (.nilFunc), 1, 8) := by kernel_rfl
theorem ti91 : TiOk Try.prog 91 { size := 1, bytes := 8, zero := [.nilFunc], kind := .cell } := tiOk_mk info91 rfl rfl rfl (by decide) (⟨_, Try.underlying91, fun _ h => TypeDesc.noConfusion h, fun _ _ h => TypeDesc.noConfusion h⟩) (by decide) (fun h => absurd rfl h)
theorem info92 : (Try.prog.info? 92).map (fun i => (i.zero, i.size, i.bytes)) = some (some (.nilFunc), 1, 8) := by kernel_rfl
theorem ti92 : TiOk Try.prog 92 { size := 1, bytes := 8, zero := [.nilFunc], kind := .cell } := tiOk_mk info92 rfl rfl rfl (by decide) (⟨_, Try.underlying92, fun _ h => TypeDesc.noConfusion h, fun _ _ h => TypeDesc.noConfusion h⟩) (by decide) (fun h => absurd rfl h)
theorem info93 : (Try.prog.info? 93).map (fun i => (i.zero, i.size, i.bytes)) = some (some (.nilFunc), 1, 8) := by kernel_rfl
theorem ti93 : TiOk Try.prog 93 { size := 1, bytes := 8, zero := [.nilFunc], kind := .cell } := tiOk_mk info93 rfl rfl rfl (by decide) (⟨_, Try.underlying93, fun _ h => TypeDesc.noConfusion h, fun _ _ h => TypeDesc.noConfusion h⟩) (by decide) (fun h => absurd rfl h)
theorem info95 : (Try.prog.info? 95).map (fun i => (i.zero, i.size, i.bytes)) = some (some (.nilFunc), 1, 8) := by kernel_rfl
theorem ti95 : TiOk Try.prog 95 { size := 1, bytes := 8, zero := [.nilFunc], kind := .cell } := tiOk_mk info95 rfl rfl rfl (by decide) (⟨_, Try.underlying95, fun _ h => TypeDesc.noConfusion h, fun _ _ h => TypeDesc.noConfusion h⟩) (by decide) (fun h => absurd rfl h)
theorem info96 : (Try.prog.info? 96).map (fun i => (i.zero, i.size, i.bytes)) = some (some (.nilFunc), 1, 8) := by kernel_rfl
theorem ti96 : TiOk Try.prog 96 { size := 1, bytes := 8, zero := [.nilFunc], kind := .cell } := tiOk_mk info96 rfl rfl rfl (by decide) (⟨_, Try.underlying96, fun _ h => TypeDesc.noConfusion h, fun _ _ h => TypeDesc.noConfusion h⟩) (by decide) (fun h => absurd rfl h)
theorem info97 : (Try.prog.info? 97).map (fun i => (i.zero, i.size, i.bytes)) = some (some (.nilFunc), 1, 8) := by kernel_rfl
theorem ti97 : TiOk Try.prog 97 { size := 1, bytes := 8, zero := [.nilFunc], kind := .cell } := tiOk_mk info97 rfl rfl rfl (by decide) (⟨_, Try.underlying97, fun _ h => TypeDesc.noConfusion h, fun _ _ h => TypeDesc.noConfusion h⟩) (by decide) (fun h => absurd rfl h)
theorem info98 : (Try.prog.info? 98).map (fun i => (i.zero, i.size, i.bytes)) = some (some (.nilFunc), 1, 8) := by kernel_rfl
theorem ti98 : TiOk Try.prog 98 { size := 1, bytes := 8, zero := [.nilFunc], kind := .cell } := tiOk_mk info98 rfl rfl rfl (by decide) (⟨_, Try.underlying98, fun _ h => TypeDesc.noConfusion h, fun _ _ h => TypeDesc.noConfusion h⟩) (by decide) (fun h => absurd rfl h)
theorem info99 : (Try.prog.info? 99).map (fun i => (i.zero, i.size, i.bytes)) = some (some (.slice none 0 0), 1, 24) := by kernel_rfl
theorem ti99 : TiOk Try.prog 99 { size := 1, bytes := 24, zero := [.slice none 0 0], kind := .slice 24 } := tiOk_mk info99 rfl rfl rfl (by decide) (Try.underlying99) (by decide) (fun h => absurd rfl h)
theorem info100 : (Try.prog.info? 100).map (fun i => (i.zero, i.size, i.bytes)) = some (some (.nilFunc), 1, 8) := by kernel_rfl
theorem ti100 : TiOk Try.prog 100 { size := 1, bytes := 8, zero := [.nilFunc], kind := .cell } := tiOk_mk info100 rfl rfl rfl (by decide) (⟨_, Try.underlying100, fun _ h => TypeDesc.noConfusion h, fun _ _ h => TypeDesc.noConfusion h⟩) (by decide) (fun h => absurd rfl h)
theorem info101 : (Try.prog.info? 101).map (fun i => (i.zero, i.size, i.bytes)) = some (some (.nilFunc), 1, 8) := by kernel_rfl
theorem ti101 : TiOk Try.prog 101 { size := 1, bytes := 8, zero := [.nilFunc], kind := .cell } := tiOk_mk info101 rfl rfl rfl (by decide) (⟨_, Try.underlying101, fun _ h => TypeDesc.noConfusion h, fun _ _ h => TypeDesc.noConfusion h⟩) (by decide) (fun h => absurd rfl h)
theorem info102 : (Try.prog.info? 102).map (fun i => (i.zero, i.size, i.bytes)) = some (some (.nilFunc), 1, 8) := by kernel_rfl
theorem ti102 : TiOk Try.prog 102 { size := 1, bytes := 8, zero := [.nilFunc], kind := .cell } := tiOk_mk info102 rfl rfl rfl (by decide) (⟨_, Try.underlying102, fun _ h => TypeDesc.noConfusion h, fun _ _ h => TypeDesc.noConfusion h⟩) (by decide) (fun h => absurd rfl h)
theorem info104 : (Try.prog.info? 104).map (fun i => (i.zero, i.size, i.bytes)) = some (some (.nilFunc), 1, 8) := by kernel_rfl
theorem ti104 : TiOk Try.prog 104 { size := 1, bytes := 8, zero := [.nilFunc], kind := .cell } := tiOk_mk info104 rfl rfl rfl (by decide) (⟨_, Try.underlying104, fun _ h => TypeDesc.noConfusion h, fun _ _ h => TypeDesc.noConfusion h⟩) (by decide) (fun h => absurd rfl h)
theorem info105 : (Try.prog.info? 105).map (fun i => (i.zero, i.size, i.bytes)) = some (some (.nilFunc), 1, 8) := by kernel_rfl
theorem ti105 : TiOk Try.prog 105 { size := 1, bytes := 8, zero := [.nilFunc], kind := .cell } := tiOk_mk info105 rfl rfl rfl (by decide) (⟨_, Try.underlying105, fun _ h => TypeDesc.noConfusion h, fun _ _ h => TypeDesc.noConfusion h⟩) (by decide) (fun h => absurd rfl h)
theorem info106 : (Try.prog.info? 106).map (fun i => (i.zero, i.size, i.bytes)) = some (some (.nilFunc), 1, 8) := by kernel_rfl
theorem ti106 : TiOk Try.prog 106 { size := 1, bytes := 8, zero := [.nilFunc], kind := .cell } := tiOk_mk info106 rfl rfl rfl (by decide) (⟨_, Try.underlying106, fun _ h => TypeDesc.noConfusion h, fun _ _ h => TypeDesc.noConfusion h⟩) (by decide) (fun h => absurd rfl h)
theorem info107 : (Try.prog.info? 107).map (fun i => (i.zero, i.size, i.bytes)) = some (some (.nilFunc), 1, 8) := by kernel_rfl
theorem ti107 : TiOk Try.prog 107 { size := 1, bytes := 8, zero := [.nilFunc], kind := .cell } := tiOk_mk info107 rfl rfl rfl (by decide) (⟨_, Try.underlying107, fun _ h => TypeDesc.noConfusion h, fun _ _ h => TypeDesc.noConfusion h⟩) (by decide) (fun h => absurd rfl h)
theorem info108 : (Try.prog.info? 108).map (fun i => (i.zero, i.size, i.bytes)) = some (some (.pointer none), 1, 8) := by kernel_rfl
theorem ti108 : TiOk Try.prog 108 { size := 1, bytes := 8, zero := [.pointer none], kind := .cell } := tiOk_mk info108 rfl rfl rfl (by decide) (⟨_, Try.underlying108, fun _ h => TypeDesc.noConfusion h, fun _ _ h => TypeDesc.noConfusion h⟩) (by decide) (fun h => absurd rfl h)
theorem info109 : (Try.prog.info? 109).map (fun i => (i.zero, i.size, i.bytes)) = some (some (.nilFunc), 1, 8) := by kernel_rfl
theorem ti109 : TiOk Try.prog 109 { size := 1, bytes := 8, zero := [.nilFunc], kind := .cell } := tiOk_mk info109 rfl rfl rfl (by decide) (⟨_, Try.underlying109, fun _ h => TypeDesc.noConfusion h, fun _ _ h => TypeDesc.noConfusion h⟩) (by decide) (fun h => absurd rfl h)
theorem info110 : (Try.prog.info? 110).map (fun i => (i.zero, i.size, i.bytes)) = some (some (.nilFunc), 1, 8) := by kernel_rfl
theorem ti110 : TiOk Try.prog 110 { size := 1, bytes := 8, zero := [.nilFunc], kind := .cell } := tiOk_mk info110 rfl rfl rfl (by decide) (⟨_, Try.underlying110, fun _ h => TypeDesc.noConfusion h, fun _ _ h => TypeDesc.noConfusion h⟩) (by decide) (fun h => absurd rfl h)
theorem info111 : (Try.prog.info? 111).map (fun i => (i.zero, i.size, i.bytes)) = some (some (.nilFunc), 1, 8) := by kernel_rfl
theorem ti111 : TiOk Try.prog 111 { size := 1, bytes := 8, zero := [.nilFunc], kind := .cell } := tiOk_mk info111 rfl rfl rfl (by decide) (⟨_, Try.underlying111, fun _ h => TypeDesc.noConfusion h, fun _ _ h => TypeDesc.noConfusion h⟩) (by decide) (fun h => absurd rfl h)
theorem info112 : (Try.prog.info? 112).map (fun i => (i.zero, i.size, i.bytes)) = some (some (.slice none 0 0), 1, 24) := by kernel_rfl
theorem ti112 : TiOk Try.prog 112 { size := 1, bytes := 24, zero := [.slice none 0 0], kind := .slice 22 } := tiOk_mk info112 rfl rfl rfl (by decide) (Try.underlying112) (by decide) (fun h => absurd rfl h)
theorem info113 : (Try.prog.info? 113).map (fun i => (i.zero, i.size, i.bytes)) = some (some (.agg #[.bool false, .bool false, .bool false, .bool false, .bool false, .bool false]), 6, 6) := by kernel_rfl
theorem ti113 : TiOk Try.prog 113 { size := 6, bytes := 6, zero := [.bool false, .bool false, .bool false, .bool false, .bool false, .bool false], kind := .array 6 4 } := tiOk_mk info113 rfl rfl rfl (by decide) (Try.underlying113) (by decide) (fun h => absurd rfl h)
theorem info114 : (Try.prog.info? 114).map (fun i => (i.zero, i.size, i.bytes)) = some (some (.map none), 1, 8) := by kernel_rfl
theorem ti114 : TiOk Try.prog 114 { size := 1, bytes := 8, zero := [.map none], kind := .cell } := tiOk_mk info114 rfl rfl rfl (by decide) (⟨_, Try.underlying114, fun _ h => TypeDesc.noConfusion h, fun _ _ h => TypeDesc.noConfusion h⟩) (by decide) (fun h => absurd rfl h)
theorem info115 : (Try.prog.info? 115).map (fun i => (i.zero, i.size, i.bytes)) = some (some (.nilFunc), 1, 8) := by kernel_rfl
theorem ti115 : TiOk Try.prog 115 { size := 1, bytes := 8, zero := [.nilFunc], kind := .cell } := tiOk_mk info115 rfl rfl rfl (by decide) (⟨_, Try.underlying115, fun _ h => TypeDesc.noConfusion h, fun _ _ h => TypeDesc.noConfusion h⟩) (by decide) (fun h => absurd rfl h)
theorem info116 : (Try.prog.info? 116).map (fun i => (i.zero, i.size, i.bytes)) = some (some (.nilFunc), 1, 8) := by kernel_rfl
theorem ti116 : TiOk Try.prog 116 { size := 1, bytes := 8, zero := [.nilFunc], kind := .cell } := tiOk_mk info116 rfl rfl rfl (by decide) (⟨_, Try.underlying116, fun _ h => TypeDesc.noConfusion h, fun _ _ h => TypeDesc.noConfusion h⟩) (by decide) (fun h => absurd rfl h)
theorem info117 : (Try.prog.info? 117).map (fun i => (i.zero, i.size, i.bytes)) = some (some (.nilFunc), 1, 8) := by kernel_rfl
theorem ti117 : TiOk Try.prog 117 { size := 1, bytes := 8, zero := [.nilFunc], kind := .cell } := tiOk_mk info117 rfl rfl rfl (by decide) (⟨_, Try.underlying117, fun _ h => TypeDesc.noConfusion h, fun _ _ h => TypeDesc.noConfusion h⟩) (by decide) (fun h => absurd rfl h)
theorem info118 : (Try.prog.info? 118).map (fun i => (i.zero, i.size, i.bytes)) = some (some (.nilFunc), 1, 8) := by kernel_rfl
theorem ti118 : TiOk Try.prog 118 { size := 1, bytes := 8, zero := [.nilFunc], kind := .cell } := tiOk_mk info118 rfl rfl rfl (by decide) (⟨_, Try.underlying118, fun _ h => TypeDesc.noConfusion h, fun _ _ h => TypeDesc.noConfusion h⟩) (by decide) (fun h => absurd rfl h)
theorem info119 : (Try.prog.info? 119).map (fun i => (i.zero, i.size, i.bytes)) = some (some (.nilFunc), 1, 8) := by kernel_rfl
theorem ti119 : TiOk Try.prog 119 { size := 1, bytes := 8, zero := [.nilFunc], kind := .cell } := tiOk_mk info119 rfl rfl rfl (by decide) (⟨_, Try.underlying119, fun _ h => TypeDesc.noConfusion h, fun _ _ h => TypeDesc.noConfusion h⟩) (by decide) (fun h => absurd rfl h)
theorem info120 : (Try.prog.info? 120).map (fun i => (i.zero, i.size, i.bytes)) = some (some (.nilFunc), 1, 8) := by kernel_rfl
theorem ti120 : TiOk Try.prog 120 { size := 1, bytes := 8, zero := [.nilFunc], kind := .cell } := tiOk_mk info120 rfl rfl rfl (by decide) (⟨_, Try.underlying120, fun _ h => TypeDesc.noConfusion h, fun _ _ h => TypeDesc.noConfusion h⟩) (by decide) (fun h => absurd rfl h)
theorem info121 : (Try.prog.info? 121).map (fun i => (i.zero, i.size, i.bytes)) = some (some (.nilFunc), 1, 8) := by kernel_rfl
theorem ti121 : TiOk Try.prog 121 { size := 1, bytes := 8, zero := [.nilFunc], kind := .cell } := tiOk_mk info121 rfl rfl rfl (by decide) (⟨_, Try.underlying121, fun _ h => TypeDesc.noConfusion h, fun _ _ h => TypeDesc.noConfusion h⟩) (by decide) (fun h => absurd rfl h)
theorem info122 : (Try.prog.info? 122).map (fun i => (i.zero, i.size, i.bytes)) = some (some (.nilFunc), 1, 8) := by kernel_rfl
theorem ti122 : TiOk Try.prog 122 { size := 1, bytes := 8, zero := [.nilFunc], kind := .cell } := tiOk_mk info122 rfl rfl rfl (by decide) (⟨_, Try.underlying122, fun _ h => TypeDesc.noConfusion h, fun _ _ h => TypeDesc.noConfusion h⟩) (by decide) (fun h => absurd rfl h)
theorem info123 : (Try.prog.info? 123).map (fun i => (i.zero, i.size, i.bytes)) = some (some (.nilFunc), 1, 8) := by kernel_rfl
theorem ti123 : TiOk Try.prog 123 { size := 1, bytes := 8, zero := [.nilFunc], kind := .cell } := tiOk_mk info123 rfl rfl rfl (by decide) (⟨_, Try.underlying123, fun _ h => TypeDesc.noConfusion h, fun _ _ h => TypeDesc.noConfusion h⟩) (by decide) (fun h => absurd rfl h)
theorem info129 : (Try.prog.info? 129).map (fun i => (i.zero, i.size, i.bytes)) = some (some (.nilFunc), 1, 8) := by kernel_rfl
theorem ti129 : TiOk Try.prog 129 { size := 1, bytes := 8, zero := [.nilFunc], kind := .cell } := tiOk_mk info129 rfl rfl rfl (by decide) (⟨_, Try.underlying129, fun _ h => TypeDesc.noConfusion h, fun _ _ h => TypeDesc.noConfusion h⟩) (by decide) (fun h => absurd rfl h)
theorem info130 : (Try.prog.info? 130).map (fun i => (i.zero, i.size, i.bytes)) = some (some (.int .u32 0), 1, 4) := by kernel_rfl
theorem ti130 : TiOk Try.prog 130 { size := 1, bytes := 4, zero := [.int .u32 0], kind := .int .u32 } := tiOk_mk info130 rfl rfl rfl (by decide) (Try.underlying130) (by decide) (fun h => absurd rfl h)
theorem info131 : (Try.prog.info? 131).map (fun i => (i.zero, i.size, i.bytes)) = some (some (.int .u8 0), 1, 1) := by kernel_rfl
theorem ti131 : TiOk Try.prog 131 { size := 1, bytes := 1, zero := [.int .u8 0], kind := .int .u8 } := tiOk_mk info131 rfl rfl rfl (by decide) (Try.underlying131) (by decide) (fun h => absurd rfl h)
theorem info132 : (Try.prog.info? 132).map (fun i => (i.zero, i.size, i.bytes)) = some (some (.int .u8 0), 1, 1) := by kernel_rfl
theorem ti132 : TiOk Try.prog 132 { size := 1, bytes := 1, zero := [.int .u8 0], kind := .int .u8 } := tiOk_mk info132 rfl rfl rfl (by decide) (Try.underlying132) (by decide) (fun h => absurd rfl h)
theorem info133 : (Try.prog.info? 133).map (fun i => (i.zero, i.size, i.bytes)) = some (some (.nilFunc), 1, 8) := by kernel_rfl
theorem ti133 : TiOk Try.prog 133 { size := 1, bytes := 8, zero := [.nilFunc], kind := .cell } := tiOk_mk info133 rfl rfl rfl (by decide) (⟨_, Try.underlying133, fun _ h => TypeDesc.noConfusion h, fun _ _ h => TypeDesc.noConfusion h⟩) (by decide) (fun h => absurd rfl h)
theorem info134 : (Try.prog.info? 134).map (fun i => (i.zero, i.size, i.bytes)) = some (some (.pointer none), 1, 8) := by kernel_rfl
theorem ti134 : TiOk Try.prog 134 { size := 1, bytes := 8, zero := [.pointer none], kind := .cell } := tiOk_mk info134 rfl rfl rfl (by decide) (⟨_, Try.underlying134, fun _ h => TypeDesc.noConfusion h, fun _ _ h => TypeDesc.noConfusion h⟩) (by decide) (fun h => absurd rfl h)
theorem info135 : (Try.prog.info? 135).map (fun i => (i.zero, i.size, i.bytes)) = some (some (.int .i32 0), 1, 4) := by kernel_rfl
theorem ti135 : TiOk Try.prog 135 { size := 1, bytes := 4, zero := [.int .i32 0], kind := .int .i32 } := tiOk_mk info135 rfl rfl rfl (by decide) (Try.underlying135) (by decide) (fun h => absurd rfl h)
theorem info136 : (Try.prog.info? 136).map (fun i => (i.zero, i.size, i.bytes)) = some (some (.int .i32 0), 1, 4) := by kernel_rfl
theorem ti136 : TiOk Try.prog 136 { size := 1, bytes := 4, zero := [.int .i32 0], kind := .int .i32 } := tiOk_mk info136 rfl rfl rfl (by decide) (Try.underlying136) (by decide) (fun h => absurd rfl h)
theorem info137 : (Try.prog.info? 137).map (fun i => (i.zero, i.size, i.bytes)) = some (some (.agg #[.int .u64 0, .int .u64 0, .int .u32 0, .int .u8 0, .int .u8 0, .int .u8 0, .int .u8 0, .nilFunc, .pointer none, .int .i32 0, .int .i32 0]), 11, 48) := by kernel_rfl
theorem ti137 : TiOk Try.prog 137 { size := 11, bytes := 48, zero := [.int .u64 0, .int .u64 0, .int .u32 0, .int .u8 0, .int .u8 0, .int .u8 0, .int .u8 0, .nilFunc, .pointer none, .int .i32 0, .int .i32 0], kind := .struct [(0, 12), (1, 12), (2, 130), (3, 131), (4, 5), (5, 5), (6, 132), (7, 133), (8, 134), (9, 135), (10, 136)] } := tiOk_mk info137 rfl rfl rfl (by decide) (⟨_, Try.underlying137, rfl⟩) (by decide) (fun h => absurd rfl h)
theorem info138 : (Try.prog.info? 138).map (fun i => (i.zero, i.size, i.bytes)) = some (some (.agg #[.int .u64 0, .int .u64 0, .int .u32 0, .int .u8 0, .int .u8 0, .int .u8 0, .int .u8 0, .nilFunc, .pointer none, .int .i32 0, .int .i32 0]), 11, 48) := by kernel_rfl
theorem ti138 : TiOk Try.prog 138 { size := 11, bytes := 48, zero := [.int .u64 0, .int .u64 0, .int .u32 0, .int .u8 0, .int .u8 0, .int .u8 0, .int .u8 0, .nilFunc, .pointer none, .int .i32 0, .int .i32 0], kind := .struct [(0, 12), (1, 12), (2, 130), (3, 131), (4, 5), (5, 5), (6, 132), (7, 133), (8, 134), (9, 135), (10, 136)] } := tiOk_mk info138 rfl rfl rfl (by decide) (⟨_, Try.underlying138, rfl⟩) (by decide) (fun h => absurd rfl h)
def TB : Tab
  | 1 => some { size := 1, bytes := 8, zero := [.nilFunc], kind := .cell }
  | 2 => some { size := 1, bytes := 8, zero := [.int .i64 0], kind := .int .i64 }
  | 3 => some { size := 1, bytes := 8, zero := [.int .i64 0], kind := .int .i64 }
  | 4 => some { size := 1, bytes := 1, zero := [.bool false], kind := .bool }
  | 5 => some { size := 1, bytes := 1, zero := [.int .u8 0], kind := .int .u8 }
  | 6 => some { size := 1, bytes := 1, zero := [.int .u8 0], kind := .int .u8 }
  | 7 => some { size := 4, bytes := 24, zero := [.int .i64 0, .int .i64 0, .bool false, .int .u8 0], kind := .struct [(0, 2), (1, 3), (2, 4), (3, 6)] }
  | 8 => some { size := 4, bytes := 24, zero := [.int .i64 0, .int .i64 0, .bool false, .int .u8 0], kind := .struct [(0, 2), (1, 3), (2, 4), (3, 6)] }
  | 12 => some { size := 1, bytes := 8, zero := [.int .u64 0], kind := .int .u64 }
  | 15 => some { size := 1, bytes := 8, zero := [.pointer none], kind := .cell }
  | 16 => some { size := 1, bytes := 8, zero := [.pointer none], kind := .cell }
  | 17 => some { size := 1, bytes := 8, zero := [.pointer none], kind := .cell }
  | 18 => some { size := 1, bytes := 8, zero := [.pointer none], kind := .struct [(0, 17)] }
  | 19 => some { size := 1, bytes := 8, zero := [.pointer none], kind := .struct [(0, 17)] }
  | 21 => some { size := 1, bytes := 4, zero := [.int .i32 0], kind := .int .i32 }
  | 22 => some { size := 1, bytes := 24, zero := [.slice none 0 0], kind := .slice 54 }
  | 23 => some { size := 2, bytes := 16, zero := [.int .i64 0, .int .i64 0], kind := .struct [(0, 3), (1, 3)], eqk := [.i64, .i64] }
  | 24 => some { size := 2, bytes := 16, zero := [.int .i64 0, .int .i64 0], kind := .struct [(0, 3), (1, 3)], eqk := [.i64, .i64] }
  | 25 => some { size := 1, bytes := 24, zero := [.slice none 0 0], kind := .slice 3 }
  | 26 => some { size := 1, bytes := 8, zero := [.nilFunc], kind := .cell }
  | 27 => some { size := 1, bytes := 8, zero := [.nilFunc], kind := .cell }
  | 28 => some { size := 1, bytes := 8, zero := [.int .i64 0], kind := .int .i64 }
  | 30 => some { size := 1, bytes := 8, zero := [.nilFunc], kind := .cell }
  | 31 => some { size := 1, bytes := 8, zero := [.nilFunc], kind := .cell }
  | 32 => some { size := 1, bytes := 8, zero := [.nilFunc], kind := .cell }
  | 34 => some { size := 1, bytes := 8, zero := [.nilFunc], kind := .cell }
  | 35 => some { size := 1, bytes := 8, zero := [.nilFunc], kind := .cell }
  | 36 => some { size := 1, bytes := 8, zero := [.nilFunc], kind := .cell }
  | 37 => some { size := 1, bytes := 24, zero := [.slice none 0 0], kind := .slice 25 }
  | 38 => some { size := 1, bytes := 8, zero := [.nilFunc], kind := .cell }
  | 40 => some { size := 1, bytes := 8, zero := [.nilFunc], kind := .cell }
  | 41 => some { size := 1, bytes := 8, zero := [.nilFunc], kind := .cell }
  | 42 => some { size := 1, bytes := 8, zero := [.nilFunc], kind := .cell }
  | 43 => some { size := 1, bytes := 8, zero := [.nilFunc], kind := .cell }
  | 44 => some { size := 1, bytes := 8, zero := [.nilFunc], kind := .cell }
  | 45 => some { size := 1, bytes := 8, zero := [.nilFunc], kind := .cell }
  | 46 => some { size := 1, bytes := 8, zero := [.nilFunc], kind := .cell }
  | 47 => some { size := 1, bytes := 8, zero := [.nilFunc], kind := .cell }
  | 48 => some { size := 1, bytes := 8, zero := [.nilFunc], kind := .cell }
  | 49 => some { size := 1, bytes := 8, zero := [.nilFunc], kind := .cell }
  | 50 => some { size := 1, bytes := 8, zero := [.nilFunc], kind := .cell }
  | 51 => some { size := 1, bytes := 8, zero := [.nilFunc], kind := .cell }
  | 52 => some { size := 2, bytes := 2, zero := [.int .u8 0, .int .u8 0], kind := .array 2 5, eqk := [.u8, .u8] }
  | 53 => some { size := 3, bytes := 24, zero := [.int .i64 0, .int .i64 0, .int .i64 0], kind := .struct [(0, 3), (1, 3), (2, 3)], eqk := [.i64, .i64, .i64] }
  | 54 => some { size := 3, bytes := 24, zero := [.int .i64 0, .int .i64 0, .int .i64 0], kind := .struct [(0, 3), (1, 3), (2, 3)], eqk := [.i64, .i64, .i64] }
  | 55 => some { size := 1, bytes := 8, zero := [.nilFunc], kind := .cell }
  | 57 => some { size := 1, bytes := 8, zero := [.nilFunc], kind := .cell }
  | 58 => some { size := 1, bytes := 8, zero := [.nilFunc], kind := .cell }
  | 59 => some { size := 1, bytes := 8, zero := [.nilFunc], kind := .cell }
  | 60 => some { size := 1, bytes := 8, zero := [.nilFunc], kind := .cell }
  | 61 => some { size := 1, bytes := 8, zero := [.nilFunc], kind := .cell }
  | 62 => some { size := 1, bytes := 8, zero := [.nilFunc], kind := .cell }
  | 63 => some { size := 1, bytes := 8, zero := [.nilFunc], kind := .cell }
  | 64 => some { size := 1, bytes := 24, zero := [.slice none 0 0], kind := .struct [(0, 22)] }
  | 65 => some { size := 1, bytes := 24, zero := [.slice none 0 0], kind := .struct [(0, 22)] }
  | 67 => some { size := 1, bytes := 8, zero := [.nilFunc], kind := .cell }
  | 68 => some { size := 1, bytes := 8, zero := [.nilFunc], kind := .cell }
  | 70 => some { size := 1, bytes := 8, zero := [.nilFunc], kind := .cell }
  | 71 => some { size := 1, bytes := 8, zero := [.nilFunc], kind := .cell }
  | 72 => some { size := 1, bytes := 8, zero := [.nilFunc], kind := .cell }
  | 73 => some { size := 1, bytes := 8, zero := [.pointer none], kind := .cell }
  | 75 => some { size := 1, bytes := 8, zero := [.nilFunc], kind := .cell }
  | 76 => some { size := 1, bytes := 8, zero := [.nilFunc], kind := .cell }
  | 77 => some { size := 1, bytes := 8, zero := [.nilFunc], kind := .cell }
  | 78 => some { size := 1, bytes := 8, zero := [.nilFunc], kind := .cell }
  | 79 => some { size := 1, bytes := 24, zero := [.slice none 0 0], kind := .slice 83 }
  | 80 => some { size := 2, bytes := 48, zero := [.slice none 0 0, .slice none 0 0], kind := .struct [(0, 65), (1, 79)] }
  | 81 => some { size := 2, bytes := 48, zero := [.slice none 0 0, .slice none 0 0], kind := .struct [(0, 65), (1, 79)] }
  | 82 => some { size := 7, bytes := 56, zero := [.int .i64 0, .int .i64 0, .int .i64 0, .int .i64 0, .int .i64 0, .int .i64 0, .int .i64 0], kind := .array 7 3, eqk := [.i64, .i64, .i64, .i64, .i64, .i64, .i64] }
  | 83 => some { size := 7, bytes := 56, zero := [.int .i64 0, .int .i64 0, .int .i64 0, .int .i64 0, .int .i64 0, .int .i64 0, .int .i64 0], kind := .array 7 3, eqk := [.i64, .i64, .i64, .i64, .i64, .i64, .i64] }
  | 84 => some { size := 1, bytes := 8, zero := [.nilFunc], kind := .cell }
  | 85 => some { size := 1, bytes := 8, zero := [.nilFunc], kind := .cell }
  | 87 => some { size := 1, bytes := 8, zero := [.nilFunc], kind := .cell }
  | 88 => some { size := 1, bytes := 8, zero := [.nilFunc], kind := .cell }
  | 89 => some { size := 1, bytes := 8, zero := [.nilFunc], kind := .cell }
  | 90 => some { size := 1, bytes := 8, zero := [.nilFunc], kind := .cell }
  | 91 => some { size := 1, bytes := 8, zero := [.nilFunc], kind := .cell }
  | 92 => some { size := 1, bytes := 8, zero := [.nilFunc], kind := .cell }
  | 93 => some { size := 1, bytes := 8, zero := [.nilFunc], kind := .cell }
  | 95 => some { size := 1, bytes := 8, zero := [.nilFunc], kind := .cell }
  | 96 => some { size := 1, bytes := 8, zero := [.nilFunc], kind := .cell }
  | 97 => some { size := 1, bytes := 8, zero := [.nilFunc], kind := .cell }
  | 98 => some { size := 1, bytes := 8, zero := [.nilFunc], kind := .cell }
  | 99 => some { size := 1, bytes := 24, zero := [.slice none 0 0], kind := .slice 24 }
  | 100 => some { size := 1, bytes := 8, zero := [.nilFunc], kind := .cell }
  | 101 => some { size := 1, bytes := 8, zero := [.nilFunc], kind := .cell }
  | 102 => some { size := 1, bytes := 8, zero := [.nilFunc], kind := .cell }
  | 104 => some { size := 1, bytes := 8, zero := [.nilFunc], kind := .cell }
  | 105 => some { size := 1, bytes := 8, zero := [.nilFunc], kind := .cell }
  | 106 => some { size := 1, bytes := 8, zero := [.nilFunc], kind := .cell }
  | 107 => some { size := 1, bytes := 8, zero := [.nilFunc], kind := .cell }
  | 108 => some { size := 1, bytes := 8, zero := [.pointer none], kind := .cell }
  | 109 => some { size := 1, bytes := 8, zero := [.nilFunc], kind := .cell }
  | 110 => some { size := 1, bytes := 8, zero := [.nilFunc], kind := .cell }
  | 111 => some { size := 1, bytes := 8, zero := [.nilFunc], kind := .cell }
  | 112 => some { size := 1, bytes := 24, zero := [.slice none 0 0], kind := .slice 22 }
  | 113 => some { size := 6, bytes := 6, zero := [.bool false, .bool false, .bool false, .bool false, .bool false, .bool false], kind := .array 6 4 }
  | 114 => some { size := 1, bytes := 8, zero := [.map none], kind := .cell }
  | 115 => some { size := 1, bytes := 8, zero := [.nilFunc], kind := .cell }
  | 116 => some { size := 1, bytes := 8, zero := [.nilFunc], kind := .cell }
  | 117 => some { size := 1, bytes := 8, zero := [.nilFunc], kind := .cell }
  | 118 => some { size := 1, bytes := 8, zero := [.nilFunc], kind := .cell }
  | 119 => some { size := 1, bytes := 8, zero := [.nilFunc], kind := .cell }
  | 120 => some { size := 1, bytes := 8, zero := [.nilFunc], kind := .cell }
  | 121 => some { size := 1, bytes := 8, zero := [.nilFunc], kind := .cell }
  | 122 => some { size := 1, bytes := 8, zero := [.nilFunc], kind := .cell }
  | 123 => some { size := 1, bytes := 8, zero := [.nilFunc], kind := .cell }
  | 129 => some { size := 1, bytes := 8, zero := [.nilFunc], kind := .cell }
  | 130 => some { size := 1, bytes := 4, zero := [.int .u32 0], kind := .int .u32 }
  | 131 => some { size := 1, bytes := 1, zero := [.int .u8 0], kind := .int .u8 }
  | 132 => some { size := 1, bytes := 1, zero := [.int .u8 0], kind := .int .u8 }
  | 133 => some { size := 1, bytes := 8, zero := [.nilFunc], kind := .cell }
  | 134 => some { size := 1, bytes := 8, zero := [.pointer none], kind := .cell }
  | 135 => some { size := 1, bytes := 4, zero := [.int .i32 0], kind := .int .i32 }
  | 136 => some { size := 1, bytes := 4, zero := [.int .i32 0], kind := .int .i32 }
  | 137 => some { size := 11, bytes := 48, zero := [.int .u64 0, .int .u64 0, .int .u32 0, .int .u8 0, .int .u8 0, .int .u8 0, .int .u8 0, .nilFunc, .pointer none, .int .i32 0, .int .i32 0], kind := .struct [(0, 12), (1, 12), (2, 130), (3, 131), (4, 5), (5, 5), (6, 132), (7, 133), (8, 134), (9, 135), (10, 136)] }
  | 138 => some { size := 11, bytes := 48, zero := [.int .u64 0, .int .u64 0, .int .u32 0, .int .u8 0, .int .u8 0, .int .u8 0, .int .u8 0, .nilFunc, .pointer none, .int .i32 0, .int .i32 0], kind := .struct [(0, 12), (1, 12), (2, 130), (3, 131), (4, 5), (5, 5), (6, 132), (7, 133), (8, 134), (9, 135), (10, 136)] }
  | _ => none
@[simp] theorem TB1 : TB 1 = some { size := 1, bytes := 8, zero := [.nilFunc], kind := .cell } := rfl
@[simp] theorem TB2 : TB 2 = some { size := 1, bytes := 8, zero := [.int .i64 0], kind := .int .i64 } := rfl
@[simp] theorem TB3 : TB 3 = some { size := 1, bytes := 8, zero := [.int .i64 0], kind := .int .i64 } := rfl
@[simp] theorem TB4 : TB 4 = some { size := 1, bytes := 1, zero := [.bool false], kind := .bool } := rfl
@[simp] theorem TB5 : TB 5 = some { size := 1, bytes := 1, zero := [.int .u8 0], kind := .int .u8 } := rfl
@[simp] theorem TB6 : TB 6 = some { size := 1, bytes := 1, zero := [.int .u8 0], kind := .int .u8 } := rfl
@[simp] theorem TB7 : TB 7 = some { size := 4, bytes := 24, zero := [.int .i64 0, .int .i64 0, .bool false, .int .u8 0], kind := .struct [(0, 2), (1, 3), (2, 4), (3, 6)] } := rfl
@[simp] theorem TB8 : TB 8 = some { size := 4, bytes := 24, zero := [.int .i64 0, .int .i64 0, .bool false, .int .u8 0], kind := .struct [(0, 2), (1, 3), (2, 4), (3, 6)] } := rfl
@[simp] theorem TB12 : TB 12 = some { size := 1, bytes := 8, zero := [.int .u64 0], kind := .int .u64 } := rfl
@[simp] theorem TB15 : TB 15 = some { size := 1, bytes := 8, zero := [.pointer none], kind := .cell } := rfl
@[simp] theorem TB16 : TB 16 = some { size := 1, bytes := 8, zero := [.pointer none], kind := .cell } := rfl
@[simp] theorem TB17 : TB 17 = some { size := 1, bytes := 8, zero := [.pointer none], kind := .cell } := rfl
@[simp] theorem TB18 : TB 18 = some { size := 1, bytes := 8, zero := [.pointer none], kind := .struct [(0, 17)] } := rfl
@[simp] theorem TB19 : TB 19 = some { size := 1, bytes := 8, zero := [.pointer none], kind := .struct [(0, 17)] } := rfl
@[simp] theorem TB21 : TB 21 = some { size := 1, bytes := 4, zero := [.int .i32 0], kind := .int .i32 } := rfl
@[simp] theorem TB22 : TB 22 = some { size := 1, bytes := 24, zero := [.slice none 0 0], kind := .slice 54 } := rfl
@[simp] theorem TB23 : TB 23 = some { size := 2, bytes := 16, zero := [.int .i64 0, .int .i64 0], kind := .struct [(0, 3), (1, 3)], eqk := [.i64, .i64] } := rfl
@[simp] theorem TB24 : TB 24 = some { size := 2, bytes := 16, zero := [.int .i64 0, .int .i64 0], kind := .struct [(0, 3), (1, 3)], eqk := [.i64, .i64] } := rfl
@[simp] theorem TB25 : TB 25 = some { size := 1, bytes := 24, zero := [.slice none 0 0], kind := .slice 3 } := rfl
@[simp] theorem TB26 : TB 26 = some { size := 1, bytes := 8, zero := [.nilFunc], kind := .cell } := rfl
@[simp] theorem TB27 : TB 27 = some { size := 1, bytes := 8, zero := [.nilFunc], kind := .cell } := rfl
@[simp] theorem TB28 : TB 28 = some { size := 1, bytes := 8, zero := [.int .i64 0], kind := .int .i64 } := rfl
@[simp] theorem TB30 : TB 30 = some { size := 1, bytes := 8, zero := [.nilFunc], kind := .cell } := rfl
@[simp] theorem TB31 : TB 31 = some { size := 1, bytes := 8, zero := [.nilFunc], kind := .cell } := rfl
@[simp] theorem TB32 : TB 32 = some { size := 1, bytes := 8, zero := [.nilFunc], kind := .cell } := rfl
@[simp] theorem TB34 : TB 34 = some { size := 1, bytes := 8, zero := [.nilFunc], kind := .cell } := rfl
@[simp] theorem TB35 : TB 35 = some { size := 1, bytes := 8, zero := [.nilFunc], kind := .cell } := rfl
@[simp] theorem TB36 : TB 36 = some { size := 1, bytes := 8, zero := [.nilFunc], kind := .cell } := rfl
@[simp] theorem TB37 : TB 37 = some { size := 1, bytes := 24, zero := [.slice none 0 0], kind := .slice 25 } := rfl
@[simp] theorem TB38 : TB 38 = some { size := 1, bytes := 8, zero := [.nilFunc], kind := .cell } := rfl
@[simp] theorem TB40 : TB 40 = some { size := 1, bytes := 8, zero := [.nilFunc], kind := .cell } := rfl
@[simp] theorem TB41 : TB 41 = some { size := 1, bytes := 8, zero := [.nilFunc], kind := .cell } := rfl
@[simp] theorem TB42 : TB 42 = some { size := 1, bytes := 8, zero := [.nilFunc], kind := .cell } := rfl
@[simp] theorem TB43 : TB 43 = some { size := 1, bytes := 8, zero := [.nilFunc], kind := .cell } := rfl
@[simp] theorem TB44 : TB 44 = some { size := 1, bytes := 8, zero := [.nilFunc], kind := .cell } := rfl
@[simp] theorem TB45 : TB 45 = some { size := 1, bytes := 8, zero := [.nilFunc], kind := .cell } := rfl
@[simp] theorem TB46 : TB 46 = some { size := 1, bytes := 8, zero := [.nilFunc], kind := .cell } := rfl
@[simp] theorem TB47 : TB 47 = some { size := 1, bytes := 8, zero := [.nilFunc], kind := .cell } := rfl
@[simp] theorem TB48 : TB 48 = some { size := 1, bytes := 8, zero := [.nilFunc], kind := .cell } := rfl
@[simp] theorem TB49 : TB 49 = some { size := 1, bytes := 8, zero := [.nilFunc], kind := .cell } := rfl
@[simp] theorem TB50 : TB 50 = some { size := 1, bytes := 8, zero := [.nilFunc], kind := .cell } := rfl
@[simp] theorem TB51 : TB 51 = some { size := 1, bytes := 8, zero := [.nilFunc], kind := .cell } := rfl
@[simp] theorem TB52 : TB 52 = some { size := 2, bytes := 2, zero := [.int .u8 0, .int .u8 0], kind := .array 2 5, eqk := [.u8, .u8] } := rfl
@[simp] theorem TB53 : TB 53 = some { size := 3, bytes := 24, zero := [.int .i64 0, .int .i64 0, .int .i64 0], kind := .struct [(0, 3), (1, 3), (2, 3)], eqk := [.i64, .i64, .i64] } := rfl
@[simp] theorem TB54 : TB 54 = some { size := 3, bytes := 24, zero := [.int .i64 0, .int .i64 0, .int .i64 0], kind := .struct [(0, 3), (1, 3), (2, 3)], eqk := [.i64, .i64, .i64] } := rfl
@[simp] theorem TB55 : TB 55 = some { size := 1, bytes := 8, zero := [.nilFunc], kind := .cell } := rfl
@[simp] theorem TB57 : TB 57 = some { size := 1, bytes := 8, zero := [.nilFunc], kind := .cell } := rfl
@[simp] theorem TB58 : TB 58 = some { size := 1, bytes := 8, zero := [.nilFunc], kind := .cell } := rfl
@[simp] theorem TB59 : TB 59 = some { size := 1, bytes := 8, zero := [.nilFunc], kind := .cell } := rfl
@[simp] theorem TB60 : TB 60 = some { size := 1, bytes := 8, zero := [.nilFunc], kind := .cell } := rfl
@[simp] theorem TB61 : TB 61 = some { size := 1, bytes := 8, zero := [.nilFunc], kind := .cell } := rfl
@[simp] theorem TB62 : TB 62 = some { size := 1, bytes := 8, zero := [.nilFunc], kind := .cell } := rfl
@[simp] theorem TB63 : TB 63 = some { size := 1, bytes := 8, zero := [.nilFunc], kind := .cell } := rfl
@[simp] theorem TB64 : TB 64 = some { size := 1, bytes := 24, zero := [.slice none 0 0], kind := .struct [(0, 22)] } := rfl
@[simp] theorem TB65 : TB 65 = some { size := 1, bytes := 24, zero := [.slice none 0 0], kind := .struct [(0, 22)] } := rfl
@[simp] theorem TB67 : TB 67 = some { size := 1, bytes := 8, zero := [.nilFunc], kind := .cell } := rfl
@[simp] theorem TB68 : TB 68 = some { size := 1, bytes := 8, zero := [.nilFunc], kind := .cell } := rfl
@[simp] theorem TB70 : TB 70 = some { size := 1, bytes := 8, zero := [.nilFunc], kind := .cell } := rfl
@[simp] theorem TB71 : TB 71 = some { size := 1, bytes := 8, zero := [.nilFunc], kind := .cell } := rfl
@[simp] theorem TB72 : TB 72 = some { size := 1, bytes := 8, zero := [.nilFunc], kind := .cell } := rfl
@[simp] theorem TB73 : TB 73 = some { size := 1, bytes := 8, zero := [.pointer none], kind := .cell } := rfl
@[simp] theorem TB75 : TB 75 = some { size := 1, bytes := 8, zero := [.nilFunc], kind := .cell } := rfl
@[simp] theorem TB76 : TB 76 = some { size := 1, bytes := 8, zero := [.nilFunc], kind := .cell } := rfl
@[simp] theorem TB77 : TB 77 = some { size := 1, bytes := 8, zero := [.nilFunc], kind := .cell } := rfl
@[simp] theorem TB78 : TB 78 = some { size := 1, bytes := 8, zero := [.nilFunc], kind := .cell } := rfl
@[simp] theorem TB79 : TB 79 = some { size := 1, bytes := 24, zero := [.slice none 0 0], kind := .slice 83 } := rfl
@[simp] theorem TB80 : TB 80 = some { size := 2, bytes := 48, zero := [.slice none 0 0, .slice none 0 0], kind := .struct [(0, 65), (1, 79)] } := rfl
@[simp] theorem TB81 : TB 81 = some { size := 2, bytes := 48, zero := [.slice none 0 0, .slice none 0 0], kind := .struct [(0, 65), (1, 79)] } := rfl
@[simp] theorem TB82 : TB 82 = some { size := 7, bytes := 56, zero := [.int .i64 0, .int .i64 0, .int .i64 0, .int .i64 0, .int .i64 0, .int .i64 0, .int .i64 0], kind := .array 7 3, eqk := [.i64, .i64, .i64, .i64, .i64, .i64, .i64] } := rfl
@[simp] theorem TB83 : TB 83 = some { size := 7, bytes := 56, zero := [.int .i64 0, .int .i64 0, .int .i64 0, .int .i64 0, .int .i64 0, .int .i64 0, .int .i64 0], kind := .array 7 3, eqk := [.i64, .i64, .i64, .i64, .i64, .i64, .i64] } := rfl
@[simp] theorem TB84 : TB 84 = some { size := 1, bytes := 8, zero := [.nilFunc], kind := .cell } := rfl
@[simp] theorem TB85 : TB 85 = some { size := 1, bytes := 8, zero := [.nilFunc], kind := .cell } := rfl
@[simp] theorem TB87 : TB 87 = some { size := 1, bytes := 8, zero := [.nilFunc], kind := .cell } := rfl
@[simp] theorem TB88 : TB 88 = some { size := 1, bytes := 8, zero := [.nilFunc], kind := .cell } := rfl
@[simp] theorem TB89 : TB 89 = some { size := 1, bytes := 8, zero := [.nilFunc], kind := .cell } := rfl
@[simp] theorem TB90 : TB 90 = some { size := 1, bytes := 8, zero := [.nilFunc], kind := .cell } := rfl
@[simp] theorem TB91 : TB 91 = some { size := 1, bytes := 8, zero := [.nilFunc], kind := .cell } := rfl
@[simp] theorem TB92 : TB 92 = some { size := 1, bytes := 8, zero := [.nilFunc], kind := .cell } := rfl
@[simp] theorem TB93 : TB 93 = some { size := 1, bytes := 8, zero := [.nilFunc], kind := .cell } := rfl
@[simp] theorem TB95 : TB 95 = some { size := 1, bytes := 8, zero := [.nilFunc], kind := .cell } := rfl
@[simp] theorem TB96 : TB 96 = some { size := 1, bytes := 8, zero := [.nilFunc], kind := .cell } := rfl
@[simp] theorem TB97 : TB 97 = some { size := 1, bytes := 8, zero := [.nilFunc], kind := .cell } := rfl
@[simp] theorem TB98 : TB 98 = some { size := 1, bytes := 8, zero := [.nilFunc], kind := .cell } := rfl
@[simp] theorem TB99 : TB 99 = some { size := 1, bytes := 24, zero := [.slice none 0 0], kind := .slice 24 } := rfl
@[simp] theorem TB100 : TB 100 = some { size := 1, bytes := 8, zero := [.nilFunc], kind := .cell } := rfl
@[simp] theorem TB101 : TB 101 = some { size := 1, bytes := 8, zero := [.nilFunc], kind := .cell } := rfl
@[simp] theorem TB102 : TB 102 = some { size := 1, bytes := 8, zero := [.nilFunc], kind := .cell } := rfl
@[simp] theorem TB104 : TB 104 = some { size := 1, bytes := 8, zero := [.nilFunc], kind := .cell } := rfl
@[simp] theorem TB105 : TB 105 = some { size := 1, bytes := 8, zero := [.nilFunc], kind := .cell } := rfl
@[simp] theorem TB106 : TB 106 = some { size := 1, bytes := 8, zero := [.nilFunc], kind := .cell } := rfl
@[simp] theorem TB107 : TB 107 = some { size := 1, bytes := 8, zero := [.nilFunc], kind := .cell } := rfl
@[simp] theorem TB108 : TB 108 = some { size := 1, bytes := 8, zero := [.pointer none], kind := .cell } := rfl
@[simp] theorem TB109 : TB 109 = some { size := 1, bytes := 8, zero := [.nilFunc], kind := .cell } := rfl
@[simp] theorem TB110 : TB 110 = some { size := 1, bytes := 8, zero := [.nilFunc], kind := .cell } := rfl
@[simp] theorem TB111 : TB 111 = some { size := 1, bytes := 8, zero := [.nilFunc], kind := .cell } := rfl
@[simp] theorem TB112 : TB 112 = some { size := 1, bytes := 24, zero := [.slice none 0 0], kind := .slice 22 } := rfl
@[simp] theorem TB113 : TB 113 = some { size := 6, bytes := 6, zero := [.bool false, .bool false, .bool false, .bool false, .bool false, .bool false], kind := .array 6 4 } := rfl
@[simp] theorem TB114 : TB 114 = some { size := 1, bytes := 8, zero := [.map none], kind := .cell } := rfl
@[simp] theorem TB115 : TB 115 = some { size := 1, bytes := 8, zero := [.nilFunc], kind := .cell } := rfl
@[simp] theorem TB116 : TB 116 = some { size := 1, bytes := 8, zero := [.nilFunc], kind := .cell } := rfl
@[simp] theorem TB117 : TB 117 = some { size := 1, bytes := 8, zero := [.nilFunc], kind := .cell } := rfl
@[simp] theorem TB118 : TB 118 = some { size := 1, bytes := 8, zero := [.nilFunc], kind := .cell } := rfl
@[simp] theorem TB119 : TB 119 = some { size := 1, bytes := 8, zero := [.nilFunc], kind := .cell } := rfl
@[simp] theorem TB120 : TB 120 = some { size := 1, bytes := 8, zero := [.nilFunc], kind := .cell } := rfl
@[simp] theorem TB121 : TB 121 = some { size := 1, bytes := 8, zero := [.nilFunc], kind := .cell } := rfl
@[simp] theorem TB122 : TB 122 = some { size := 1, bytes := 8, zero := [.nilFunc], kind := .cell } := rfl
@[simp] theorem TB123 : TB 123 = some { size := 1, bytes := 8, zero := [.nilFunc], kind := .cell } := rfl
@[simp] theorem TB129 : TB 129 = some { size := 1, bytes := 8, zero := [.nilFunc], kind := .cell } := rfl
@[simp] theorem TB130 : TB 130 = some { size := 1, bytes := 4, zero := [.int .u32 0], kind := .int .u32 } := rfl
@[simp] theorem TB131 : TB 131 = some { size := 1, bytes := 1, zero := [.int .u8 0], kind := .int .u8 } := rfl
@[simp] theorem TB132 : TB 132 = some { size := 1, bytes := 1, zero := [.int .u8 0], kind := .int .u8 } := rfl
@[simp] theorem TB133 : TB 133 = some { size := 1, bytes := 8, zero := [.nilFunc], kind := .cell } := rfl
@[simp] theorem TB134 : TB 134 = some { size := 1, bytes := 8, zero := [.pointer none], kind := .cell } := rfl
@[simp] theorem TB135 : TB 135 = some { size := 1, bytes := 4, zero := [.int .i32 0], kind := .int .i32 } := rfl
@[simp] theorem TB136 : TB 136 = some { size := 1, bytes := 4, zero := [.int .i32 0], kind := .int .i32 } := rfl
@[simp] theorem TB137 : TB 137 = some { size := 11, bytes := 48, zero := [.int .u64 0, .int .u64 0, .int .u32 0, .int .u8 0, .int .u8 0, .int .u8 0, .int .u8 0, .nilFunc, .pointer none, .int .i32 0, .int .i32 0], kind := .struct [(0, 12), (1, 12), (2, 130), (3, 131), (4, 5), (5, 5), (6, 132), (7, 133), (8, 134), (9, 135), (10, 136)] } := rfl
@[simp] theorem TB138 : TB 138 = some { size := 11, bytes := 48, zero := [.int .u64 0, .int .u64 0, .int .u32 0, .int .u8 0, .int .u8 0, .int .u8 0, .int .u8 0, .nilFunc, .pointer none, .int .i32 0, .int .i32 0], kind := .struct [(0, 12), (1, 12), (2, 130), (3, 131), (4, 5), (5, 5), (6, 132), (7, 133), (8, 134), (9, 135), (10, 136)] } := rfl
set_option maxRecDepth 20000 in
set_option maxHeartbeats 4000000 in
theorem tabOk : TabOk Try.prog TB := by
  intro t i h
  unfold TB at h
  split at h <;> first
    | (cases h; exact ti1)
    | (cases h; exact ti2)
    | (cases h; exact ti3)
    | (cases h; exact ti4)
    | (cases h; exact ti5)
    | (cases h; exact ti6)
    | (cases h; exact ti7)
    | (cases h; exact ti8)
    | (cases h; exact ti12)
    | (cases h; exact ti15)
    | (cases h; exact ti16)
    | (cases h; exact ti17)
    | (cases h; exact ti18)
    | (cases h; exact ti19)
    | (cases h; exact ti21)
    | (cases h; exact ti22)
    | (cases h; exact ti23)
    | (cases h; exact ti24)
    | (cases h; exact ti25)
    | (cases h; exact ti26)
    | (cases h; exact ti27)
    | (cases h; exact ti28)
    | (cases h; exact ti30)
    | (cases h; exact ti31)
    | (cases h; exact ti32)
    | (cases h; exact ti34)
    | (cases h; exact ti35)
    | (cases h; exact ti36)
    | (cases h; exact ti37)
    | (cases h; exact ti38)
    | (cases h; exact ti40)
    | (cases h; exact ti41)
    | (cases h; exact ti42)
    | (cases h; exact ti43)
    | (cases h; exact ti44)
    | (cases h; exact ti45)
    | (cases h; exact ti46)
    | (cases h; exact ti47)
    | (cases h; exact ti48)
    | (cases h; exact ti49)
    | (cases h; exact ti50)
    | (cases h; exact ti51)
    | (cases h; exact ti52)
    | (cases h; exact ti53)
    | (cases h; exact ti54)
    | (cases h; exact ti55)
    | (cases h; exact ti57)
    | (cases h; exact ti58)
    | (cases h; exact ti59)
    | (cases h; exact ti60)
    | (cases h; exact ti61)
    | (cases h; exact ti62)
    | (cases h; exact ti63)
    | (cases h; exact ti64)
    | (cases h; exact ti65)
    | (cases h; exact ti67)
    | (cases h; exact ti68)
    | (cases h; exact ti70)
    | (cases h; exact ti71)
    | (cases h; exact ti72)
    | (cases h; exact ti73)
    | (cases h; exact ti75)
    | (cases h; exact ti76)
    | (cases h; exact ti77)
    | (cases h; exact ti78)
    | (cases h; exact ti79)
    | (cases h; exact ti80)
    | (cases h; exact ti81)
    | (cases h; exact ti82)
    | (cases h; exact ti83)
    | (cases h; exact ti84)
    | (cases h; exact ti85)
    | (cases h; exact ti87)
    | (cases h; exact ti88)
    | (cases h; exact ti89)
    | (cases h; exact ti90)
    | (cases h; exact ti91)
    | (cases h; exact ti92)
    | (cases h; exact ti93)
    | (cases h; exact ti95)
    | (cases h; exact ti96)
    | (cases h; exact ti97)
    | (cases h; exact ti98)
    | (cases h; exact ti99)
    | (cases h; exact ti100)
    | (cases h; exact ti101)
    | (cases h; exact ti102)
    | (cases h; exact ti104)
    | (cases h; exact ti105)
    | (cases h; exact ti106)
    | (cases h; exact ti107)
    | (cases h; exact ti108)
    | (cases h; exact ti109)
    | (cases h; exact ti110)
    | (cases h; exact ti111)
    | (cases h; exact ti112)
    | (cases h; exact ti113)
    | (cases h; exact ti114)
    | (cases h; exact ti115)
    | (cases h; exact ti116)
    | (cases h; exact ti117)
    | (cases h; exact ti118)
    | (cases h; exact ti119)
    | (cases h; exact ti120)
    | (cases h; exact ti121)
    | (cases h; exact ti122)
    | (cases h; exact ti123)
    | (cases h; exact ti129)
    | (cases h; exact ti130)
    | (cases h; exact ti131)
    | (cases h; exact ti132)
    | (cases h; exact ti133)
    | (cases h; exact ti134)
    | (cases h; exact ti135)
    | (cases h; exact ti136)
    | (cases h; exact ti137)
    | (cases h; exact ti138)
    | cases h
end Go.Proofs.Ytgiomfamlbmpcaa.Eng

namespace Go.Proofs.Ytgiomfamlbmpcaa.Eng
open Go.RowKit
theorem zq0 : Try.prog.follows .mixedOrders = true := by kernel_rfl
section
variable {P : Program} {tp : Bool} {ns : Nat}
theorem zq1 {x y : Code} {n : Nat} {s : St} {Q : Post} (h : ∀ k : KK P tp ns y Q, AWp P tp ns x n s (thenP k.K Q)) : AWp P tp ns (.seq x y) n s Q := AWp.seqK h
theorem zq2 {id n : Nat} {c : Code} {s : St} {Q : Post} (h : ∀ b : BB id Q, AWp P tp ns c n s b.B) : AWp P tp ns (.block id c) n s Q := AWp.blockK h
theorem zq3 {y : Code} {Q : Post} {k : KK P tp ns y Q} {n : Nat} {s : St} (h : AWp P tp ns y n s Q) : k.K n s := KK.go h
theorem zq5 {c : Operand} {x y : Code} {n : Nat} {s : St} {Q : Post} (h : ∀ (kx : KK P tp ns x Q) (ky : KK P tp ns y Q), CondG (opd ns s c) (kx.K n s) (ky.K n s)) : AWp P tp ns (.cond c x y) n s Q := AWp.condK h
theorem zq7 {id : Nat} {Q : Post} {b : BB id Q} {e : Exit} {n : Nat} {s : St} (h : blockP id Q e n s) : b.B e n s := BB.go h
end
theorem zq4 {tp : Bool} {ns id n : Nat} {l : List Oper} {s : St} {Q : Post} (h : Exec0 Try.prog tp TB l.toArray ns n l s (fun s' => Q .normal (n + l.length) s')) : AWp Try.prog tp ns (.region id l.toArray false) n s Q := AWp.reg tabOk h
theorem zq6 {tp : Bool} {ns id n : Nat} {l : List Oper} {s : St} {Q : Post} (h : Exec Try.prog TB l.toArray ns n l s [] (fun s' log => okLog l log = true ∧ Q .normal (n + l.length) s')) (hB : backB l.toArray = true := by kernel_rfl) : AWp Try.prog tp ns (.region id l.toArray true) n s Q := AWp.draws tabOk zq0 hB h
theorem zq8 {l : List Oper} {log : List Foot} {q : Prop} (h : q) (hl : okLog l log = true := by kernel_rfl) : okLog l log = true ∧ q := ⟨hl, h⟩
end Go.Proofs.Ytgiomfamlbmpcaa.Eng

namespace Go.Proofs.Ytgiomfamlbmpcaa.Eng
open Go.RowKit
structure HS where
  grit : Int
  cut : Int
  burr : Int
structure HE where
  depth : Int
  burr : Int
deriving DecidableEq
abbrev hsRow (t : HS) : List Dat := [iD t.grit, iD t.cut, iD t.burr]
def hsRows (l : List HS) : List (List Dat) := l.map hsRow
@[simp] theorem hsRows_len (l : List HS) : (hsRows l).length = l.length := List.length_map _
@[simp] theorem hsRows_get (l : List HS) (i : Nat) : (hsRows l)[i]? = (l[i]?).map hsRow := List.getElem?_map
abbrev heRow (t : HE) : List Dat := [iD t.depth, iD t.burr]
def heRows (l : List HE) : List (List Dat) := l.map heRow
@[simp] theorem heRows_len (l : List HE) : (heRows l).length = l.length := List.length_map _
@[simp] theorem heRows_get (l : List HE) (i : Nat) : (heRows l)[i]? = (l[i]?).map heRow := List.getElem?_map
abbrev boxD (l : List HS) : Dat := .list (hsRows l)
abbrev stnD (t : HS) : Dat := .agg [iD t.grit, iD t.cut, iD t.burr]
abbrev edgD (t : HE) : Dat := .agg [iD t.depth, iD t.burr]
def inK (n lo hi : Int) : Bool := decide (lo ≤ n ∧ n ≤ hi)
def fromK (lo hi : Int) (l : List Int) : Bool := l.all fun x => inK x lo hi
theorem allK_take {α : Type} {l : List α} {k : Nat} {x : α} (h : l[k]? = some x) (p : α → Bool) : (l.take (k + 1)).all p = ((l.take k).all p && p x) := by
  obtain ⟨hk, rfl⟩ := List.getElem?_eq_some_iff.1 h
  rw [List.take_succ_eq_append_getElem hk, List.all_append]
  simp
theorem allK_not {α : Type} {l : List α} {k : Nat} {x : α} (h : l[k]? = some x) {p : α → Bool} (hp : p x = false) : l.all p = false := by
  rw [List.all_eq_false]
  exact ⟨x, List.mem_of_getElem? h, by simp [hp]⟩
theorem fromK_mem {lo hi : Int} {l : List Int} (h : fromK lo hi l = true) {k : Nat} {x : Int} (hx : l[k]? = some x) : lo ≤ x ∧ x ≤ hi := by
  have := List.all_eq_true.1 h x (List.mem_of_getElem? hx)
  simpa [inK] using this
set_option maxRecDepth 100000 in
set_option maxHeartbeats 4000000 in
theorem areFrom_c (lo hi : Int) (l : List Int) (hl : l.length ≤ 1000000) : ACall Try.prog 50 [iD lo, iD hi, intL l] (bD (fromK lo hi l)) := by
  obtain ⟨r, hr⟩ : ∃ r, r = fromK lo hi l := ⟨_, rfl⟩
  rw [← hr]
  refine acallK tabOk Try.func50 rfl rfl (show 3 ≤ _ by decide) rfl fun _ => ?_; simp only [Try.ntmps50]
  repeat (first | (with_reducible first | refine zq1 fun _ => ?_ | refine zq2 fun _ => ?_ | refine zq3 ?_) | ((first | refine zq4 ?_ | refine zq5 fun _ _ => ?_ | refine zq6 ?_); simp [-getElem?_pos, z0, z1, z2, ]) | ((first | refine AWp.ret ?_ | refine AWp.skip ?_ | refine AWp.exit ?_); try simp only [thenP]) | (with_reducible refine zq7 ?_; simp only [blockP, thenP, reduceIte]) | with_reducible refine zq8 ?_)
  refine AWp.loopK (ι := { k : Nat // k ≤ l.length ∧ fromK lo hi (l.take k) = true }) (n := 0) (fun k => [(0, .d (iD lo)), (1, .d (iD hi)), (9, .d (intL l)), (10, .d (iD l.length)), (11, .d (iD k.1))]) (fun _ => []) (fun k => l.length - k.1) ⟨0, Nat.zero_le _, by simp [fromK]⟩ [] ?_ ?_
  · refine ⟨by rfl, by simp [], by simp [or_imp, forall_and, ] <;> (try (intro _hne; simp [_hne])), by decide⟩
  rintro ⟨k, hk, hall⟩ kk
  have w1 : IntKind.i64.wrap ((k : Int) + 1) = (k : Int) + 1 := wrap64_in (by omega)
  by_cases hlt : k < l.length
  · obtain ⟨x, hx⟩ : ∃ x, l[k]? = some x := ⟨_, List.getElem?_eq_getElem hlt⟩
    by_cases g : x < lo
    · have hr' : r = false := by rw [hr]; exact allK_not hx (p := fun x => inK x lo hi) (decide_eq_false fun h => by omega)
      repeat (first | (with_reducible first | refine zq1 fun _ => ?_ | refine zq2 fun _ => ?_ | refine zq3 ?_) | ((first | refine zq4 ?_ | refine zq5 fun _ _ => ?_ | refine zq6 ?_); simp [-getElem?_pos, z0, z1, z2, hlt, hx, g]) | ((first | refine AWp.ret ?_ | refine AWp.skip ?_ | refine AWp.exit ?_); try simp only [thenP]) | (with_reducible refine zq7 ?_; simp only [blockP, thenP, reduceIte]) | with_reducible refine zq8 ?_)
      (first | refine RR.ret ?_ | refine RR.normal ?_); simp [hr']
    by_cases g2 : hi < x
    · have hr' : r = false := by rw [hr]; exact allK_not hx (p := fun x => inK x lo hi) (decide_eq_false fun h => by omega)
      repeat (first | (with_reducible first | refine zq1 fun _ => ?_ | refine zq2 fun _ => ?_ | refine zq3 ?_) | ((first | refine zq4 ?_ | refine zq5 fun _ _ => ?_ | refine zq6 ?_); simp [-getElem?_pos, z0, z1, z2, hlt, hx, g, g2]) | ((first | refine AWp.ret ?_ | refine AWp.skip ?_ | refine AWp.exit ?_); try simp only [thenP]) | (with_reducible refine zq7 ?_; simp only [blockP, thenP, reduceIte]) | with_reducible refine zq8 ?_)
      (first | refine RR.ret ?_ | refine RR.normal ?_); simp [hr']
    · have hall2 : fromK lo hi (l.take (k + 1)) = true := by
        unfold fromK at hall ⊢
        rw [allK_take hx, hall, Bool.true_and]
        exact decide_eq_true ⟨by omega, by omega⟩
      repeat (first | (with_reducible first | refine zq1 fun _ => ?_ | refine zq2 fun _ => ?_ | refine zq3 ?_) | ((first | refine zq4 ?_ | refine zq5 fun _ _ => ?_ | refine zq6 ?_); simp [-getElem?_pos, z0, z1, z2, hlt, hx, g, g2, w1]) | ((first | refine AWp.ret ?_ | refine AWp.skip ?_ | refine AWp.exit ?_); try simp only [thenP]) | (with_reducible refine zq7 ?_; simp only [blockP, thenP, reduceIte]) | with_reducible refine zq8 ?_)
      refine LL.go ⟨k + 1, hlt, hall2⟩ [] ⟨by rfl, by simp [], by simp [or_imp, forall_and, ] <;> (try (intro _hne; simp [_hne])), by decide⟩ ?_
      simp; omega
  · obtain rfl : k = l.length := by omega
    rw [List.take_of_length_le (Nat.le_refl _)] at hall
    have hr' : r = true := hr.trans hall
    repeat (first | (with_reducible first | refine zq1 fun _ => ?_ | refine zq2 fun _ => ?_ | refine zq3 ?_) | ((first | refine zq4 ?_ | refine zq5 fun _ _ => ?_ | refine zq6 ?_); simp [-getElem?_pos, z0, z1, z2, hlt]) | ((first | refine AWp.ret ?_ | refine AWp.skip ?_ | refine AWp.exit ?_); try simp only [thenP]) | (with_reducible refine zq7 ?_; simp only [blockP, thenP, reduceIte]) | with_reducible refine zq8 ?_)
    (first | refine RR.ret ?_ | refine RR.normal ?_); simp [hr']
def okS (t : HS) : Bool := fromK 0 100 [t.grit, t.cut] && fromK (-6) 6 [t.burr]
def okE (t : HE) : Bool := fromK 0 100 [t.depth] && fromK 0 6 [t.burr]
theorem okS_eq (t : HS) : okS t = decide ((0 ≤ t.grit ∧ t.grit ≤ 100) ∧ (0 ≤ t.cut ∧ t.cut ≤ 100) ∧ -6 ≤ t.burr ∧ t.burr ≤ 6) := by
  simp only [okS, fromK, inK, List.all_cons, List.all_nil, Bool.and_true]
  rw [Bool.eq_iff_iff]
  simp
  omega
theorem okE_eq (t : HE) : okE t = decide ((0 ≤ t.depth ∧ t.depth ≤ 100) ∧ 0 ≤ t.burr ∧ t.burr ≤ 6) := by
  simp only [okE, fromK, inK, List.all_cons, List.all_nil, Bool.and_true]
  rw [Bool.eq_iff_iff]
  simp
set_option maxRecDepth 100000 in
set_option maxHeartbeats 4000000 in
theorem isStone_c (t : HS) : ACall Try.prog 54 [stnD t] (bD (okS t)) := by
  have c1 : ACall Try.prog 50 [iD 0, iD 100, .list [[iD t.grit], [iD t.cut]]] (bD (fromK 0 100 [t.grit, t.cut])) := areFrom_c 0 100 [t.grit, t.cut] (by simp)
  have c2 : ACall Try.prog 50 [iD (-6), iD 6, .list [[iD t.burr]]] (bD (fromK (-6) 6 [t.burr])) := areFrom_c (-6) 6 [t.burr] (by simp)
  obtain ⟨r, hr⟩ : ∃ r, r = okS t := ⟨_, rfl⟩
  rw [← hr]
  unfold okS at hr
  rcases g1 : fromK 0 100 [t.grit, t.cut] <;> rw [g1] at c1 hr
  · refine acallK tabOk Try.func54 rfl rfl (show 1 ≤ _ by decide) rfl fun _ => ?_; simp only [Try.ntmps54]
    repeat (first | (with_reducible first | refine zq1 fun _ => ?_ | refine zq2 fun _ => ?_ | refine zq3 ?_) | ((first | refine zq4 ?_ | refine zq5 fun _ _ => ?_ | refine zq6 ?_); simp [-getElem?_pos, z0, z1, z2, ]) | ((first | refine AWp.ret ?_ | refine AWp.skip ?_ | refine AWp.exit ?_); try simp only [thenP]) | (with_reducible refine zq7 ?_; simp only [blockP, thenP, reduceIte]) | with_reducible refine zq8 ?_)
    (first | refine Exec0.call [6] c1 ?_ rfl ?_ ?_ | refine Exec.call [6] c1 ?_ rfl ?_ ?_); (focus simp [-getElem?_pos, ]); (focus simp [-getElem?_pos, z0, z1, z2, ]); simp [-getElem?_pos, z0, z1, z2, ]
    repeat (first | (with_reducible first | refine zq1 fun _ => ?_ | refine zq2 fun _ => ?_ | refine zq3 ?_) | ((first | refine zq4 ?_ | refine zq5 fun _ _ => ?_ | refine zq6 ?_); simp [-getElem?_pos, z0, z1, z2, ]) | ((first | refine AWp.ret ?_ | refine AWp.skip ?_ | refine AWp.exit ?_); try simp only [thenP]) | (with_reducible refine zq7 ?_; simp only [blockP, thenP, reduceIte]) | with_reducible refine zq8 ?_)
    (first | refine RR.ret ?_ | refine RR.normal ?_); simp [hr]
  · refine acallK tabOk Try.func54 rfl rfl (show 1 ≤ _ by decide) rfl fun _ => ?_; simp only [Try.ntmps54]
    repeat (first | (with_reducible first | refine zq1 fun _ => ?_ | refine zq2 fun _ => ?_ | refine zq3 ?_) | ((first | refine zq4 ?_ | refine zq5 fun _ _ => ?_ | refine zq6 ?_); simp [-getElem?_pos, z0, z1, z2, ]) | ((first | refine AWp.ret ?_ | refine AWp.skip ?_ | refine AWp.exit ?_); try simp only [thenP]) | (with_reducible refine zq7 ?_; simp only [blockP, thenP, reduceIte]) | with_reducible refine zq8 ?_)
    (first | refine Exec0.call [6] c1 ?_ rfl ?_ ?_ | refine Exec.call [6] c1 ?_ rfl ?_ ?_); (focus simp [-getElem?_pos, ]); (focus simp [-getElem?_pos, z0, z1, z2, ]); simp [-getElem?_pos, z0, z1, z2, ]
    repeat (first | (with_reducible first | refine zq1 fun _ => ?_ | refine zq2 fun _ => ?_ | refine zq3 ?_) | ((first | refine zq4 ?_ | refine zq5 fun _ _ => ?_ | refine zq6 ?_); simp [-getElem?_pos, z0, z1, z2, ]) | ((first | refine AWp.ret ?_ | refine AWp.skip ?_ | refine AWp.exit ?_); try simp only [thenP]) | (with_reducible refine zq7 ?_; simp only [blockP, thenP, reduceIte]) | with_reducible refine zq8 ?_)
    (first | refine Exec0.call [11] c2 ?_ rfl ?_ ?_ | refine Exec.call [11] c2 ?_ rfl ?_ ?_); (focus simp [-getElem?_pos, ]); (focus simp [-getElem?_pos, z0, z1, z2, ]); simp [-getElem?_pos, z0, z1, z2, ]
    repeat (first | (with_reducible first | refine zq1 fun _ => ?_ | refine zq2 fun _ => ?_ | refine zq3 ?_) | ((first | refine zq4 ?_ | refine zq5 fun _ _ => ?_ | refine zq6 ?_); simp [-getElem?_pos, z0, z1, z2, ]) | ((first | refine AWp.ret ?_ | refine AWp.skip ?_ | refine AWp.exit ?_); try simp only [thenP]) | (with_reducible refine zq7 ?_; simp only [blockP, thenP, reduceIte]) | with_reducible refine zq8 ?_)
    (first | refine RR.ret ?_ | refine RR.normal ?_); simp [hr]
set_option maxRecDepth 100000 in
set_option maxHeartbeats 4000000 in
theorem isEdge_c (t : HE) : ACall Try.prog 74 [edgD t] (bD (okE t)) := by
  have c1 : ACall Try.prog 50 [iD 0, iD 100, .list [[iD t.depth]]] (bD (fromK 0 100 [t.depth])) := areFrom_c 0 100 [t.depth] (by simp)
  have c2 : ACall Try.prog 50 [iD 0, iD 6, .list [[iD t.burr]]] (bD (fromK 0 6 [t.burr])) := areFrom_c 0 6 [t.burr] (by simp)
  obtain ⟨r, hr⟩ : ∃ r, r = okE t := ⟨_, rfl⟩
  rw [← hr]
  unfold okE at hr
  rcases g1 : fromK 0 100 [t.depth] <;> rw [g1] at c1 hr
  · refine acallK tabOk Try.func74 rfl rfl (show 1 ≤ _ by decide) rfl fun _ => ?_; simp only [Try.ntmps74]
    repeat (first | (with_reducible first | refine zq1 fun _ => ?_ | refine zq2 fun _ => ?_ | refine zq3 ?_) | ((first | refine zq4 ?_ | refine zq5 fun _ _ => ?_ | refine zq6 ?_); simp [-getElem?_pos, z0, z1, z2, ]) | ((first | refine AWp.ret ?_ | refine AWp.skip ?_ | refine AWp.exit ?_); try simp only [thenP]) | (with_reducible refine zq7 ?_; simp only [blockP, thenP, reduceIte]) | with_reducible refine zq8 ?_)
    (first | refine Exec0.call [4] c1 ?_ rfl ?_ ?_ | refine Exec.call [4] c1 ?_ rfl ?_ ?_); (focus simp [-getElem?_pos, ]); (focus simp [-getElem?_pos, z0, z1, z2, ]); simp [-getElem?_pos, z0, z1, z2, ]
    repeat (first | (with_reducible first | refine zq1 fun _ => ?_ | refine zq2 fun _ => ?_ | refine zq3 ?_) | ((first | refine zq4 ?_ | refine zq5 fun _ _ => ?_ | refine zq6 ?_); simp [-getElem?_pos, z0, z1, z2, ]) | ((first | refine AWp.ret ?_ | refine AWp.skip ?_ | refine AWp.exit ?_); try simp only [thenP]) | (with_reducible refine zq7 ?_; simp only [blockP, thenP, reduceIte]) | with_reducible refine zq8 ?_)
    (first | refine RR.ret ?_ | refine RR.normal ?_); simp [hr]
  · refine acallK tabOk Try.func74 rfl rfl (show 1 ≤ _ by decide) rfl fun _ => ?_; simp only [Try.ntmps74]
    repeat (first | (with_reducible first | refine zq1 fun _ => ?_ | refine zq2 fun _ => ?_ | refine zq3 ?_) | ((first | refine zq4 ?_ | refine zq5 fun _ _ => ?_ | refine zq6 ?_); simp [-getElem?_pos, z0, z1, z2, ]) | ((first | refine AWp.ret ?_ | refine AWp.skip ?_ | refine AWp.exit ?_); try simp only [thenP]) | (with_reducible refine zq7 ?_; simp only [blockP, thenP, reduceIte]) | with_reducible refine zq8 ?_)
    (first | refine Exec0.call [4] c1 ?_ rfl ?_ ?_ | refine Exec.call [4] c1 ?_ rfl ?_ ?_); (focus simp [-getElem?_pos, ]); (focus simp [-getElem?_pos, z0, z1, z2, ]); simp [-getElem?_pos, z0, z1, z2, ]
    repeat (first | (with_reducible first | refine zq1 fun _ => ?_ | refine zq2 fun _ => ?_ | refine zq3 ?_) | ((first | refine zq4 ?_ | refine zq5 fun _ _ => ?_ | refine zq6 ?_); simp [-getElem?_pos, z0, z1, z2, ]) | ((first | refine AWp.ret ?_ | refine AWp.skip ?_ | refine AWp.exit ?_); try simp only [thenP]) | (with_reducible refine zq7 ?_; simp only [blockP, thenP, reduceIte]) | with_reducible refine zq8 ?_)
    (first | refine Exec0.call [9] c2 ?_ rfl ?_ ?_ | refine Exec.call [9] c2 ?_ rfl ?_ ?_); (focus simp [-getElem?_pos, ]); (focus simp [-getElem?_pos, z0, z1, z2, ]); simp [-getElem?_pos, z0, z1, z2, ]
    repeat (first | (with_reducible first | refine zq1 fun _ => ?_ | refine zq2 fun _ => ?_ | refine zq3 ?_) | ((first | refine zq4 ?_ | refine zq5 fun _ _ => ?_ | refine zq6 ?_); simp [-getElem?_pos, z0, z1, z2, ]) | ((first | refine AWp.ret ?_ | refine AWp.skip ?_ | refine AWp.exit ?_); try simp only [thenP]) | (with_reducible refine zq7 ?_; simp only [blockP, thenP, reduceIte]) | with_reducible refine zq8 ?_)
    (first | refine RR.ret ?_ | refine RR.normal ?_); simp [hr]
end Go.Proofs.Ytgiomfamlbmpcaa.Eng

namespace Go.Proofs.Ytgiomfamlbmpcaa.Eng
open Go.RowKit
@[simp] theorem hsRows_nil : hsRows [] = [] := rfl
def boxErr (l : List HS) : Int := if l.length < 1 ∨ 6 < l.length then 6 else if l.all okS then 0 else 3
theorem boxOk {l : List HS} (h : boxErr l = 0) : (1 ≤ l.length ∧ l.length ≤ 6) ∧ l.all okS = true := by
  unfold boxErr at h
  split at h
  · cases h
  · split at h
    · rename_i h1 h2
      exact ⟨by omega, h2⟩
    · cases h
theorem okS_at {l : List HS} (h : l.all okS = true) {k : Nat} {s : HS} (hs : l[k]? = some s) : (0 ≤ s.grit ∧ s.grit ≤ 100) ∧ (0 ≤ s.cut ∧ s.cut ≤ 100) ∧ -6 ≤ s.burr ∧ s.burr ≤ 6 := by
  have := List.all_eq_true.1 h s (List.mem_of_getElem? hs)
  rw [okS_eq] at this
  simpa using this
set_option maxRecDepth 100000 in
set_option maxHeartbeats 4000000 in
theorem checkBox_c (l : List HS) : ACall Try.prog 19 [boxD l] (iD (boxErr l)) := by
  obtain ⟨r, hr⟩ : ∃ r, r = boxErr l := ⟨_, rfl⟩
  rw [← hr]
  have ca : ACall Try.prog 50 [iD 1, iD 6, .list [[iD l.length]]] (bD (fromK 1 6 [(l.length : Int)])) := areFrom_c 1 6 [(l.length : Int)] (by simp)
  by_cases h1 : l.length < 1 ∨ 6 < l.length
  · have hr' : r = 6 := hr.trans (if_pos h1)
    have hf : fromK 1 6 [(l.length : Int)] = false := by simp [fromK, inK]; omega
    rw [hf] at ca
    refine acallK tabOk Try.func19 rfl rfl (show 1 ≤ _ by decide) rfl fun _ => ?_; simp only [Try.ntmps19]
    repeat (first | (with_reducible first | refine zq1 fun _ => ?_ | refine zq2 fun _ => ?_ | refine zq3 ?_) | ((first | refine zq4 ?_ | refine zq5 fun _ _ => ?_ | refine zq6 ?_); simp [-getElem?_pos, z0, z1, z2, ]) | ((first | refine AWp.ret ?_ | refine AWp.skip ?_ | refine AWp.exit ?_); try simp only [thenP]) | (with_reducible refine zq7 ?_; simp only [blockP, thenP, reduceIte]) | with_reducible refine zq8 ?_)
    (first | refine Exec0.call [3] ca ?_ rfl ?_ ?_ | refine Exec.call [3] ca ?_ rfl ?_ ?_); (focus simp [-getElem?_pos, ]); (focus simp [-getElem?_pos, z0, z1, z2, ]); simp [-getElem?_pos, z0, z1, z2, ]
    repeat (first | (with_reducible first | refine zq1 fun _ => ?_ | refine zq2 fun _ => ?_ | refine zq3 ?_) | ((first | refine zq4 ?_ | refine zq5 fun _ _ => ?_ | refine zq6 ?_); simp [-getElem?_pos, z0, z1, z2, ]) | ((first | refine AWp.ret ?_ | refine AWp.skip ?_ | refine AWp.exit ?_); try simp only [thenP]) | (with_reducible refine zq7 ?_; simp only [blockP, thenP, reduceIte]) | with_reducible refine zq8 ?_)
    (first | refine RR.ret ?_ | refine RR.normal ?_); simp [hr']
  have hf : fromK 1 6 [(l.length : Int)] = true := by simp [fromK, inK]; omega
  rw [hf] at ca
  rw [boxErr, if_neg h1] at hr
  refine acallK tabOk Try.func19 rfl rfl (show 1 ≤ _ by decide) rfl fun _ => ?_; simp only [Try.ntmps19]
  repeat (first | (with_reducible first | refine zq1 fun _ => ?_ | refine zq2 fun _ => ?_ | refine zq3 ?_) | ((first | refine zq4 ?_ | refine zq5 fun _ _ => ?_ | refine zq6 ?_); simp [-getElem?_pos, z0, z1, z2, ]) | ((first | refine AWp.ret ?_ | refine AWp.skip ?_ | refine AWp.exit ?_); try simp only [thenP]) | (with_reducible refine zq7 ?_; simp only [blockP, thenP, reduceIte]) | with_reducible refine zq8 ?_)
  (first | refine Exec0.call [3] ca ?_ rfl ?_ ?_ | refine Exec.call [3] ca ?_ rfl ?_ ?_); (focus simp [-getElem?_pos, ]); (focus simp [-getElem?_pos, z0, z1, z2, ]); simp [-getElem?_pos, z0, z1, z2, ]
  repeat (first | (with_reducible first | refine zq1 fun _ => ?_ | refine zq2 fun _ => ?_ | refine zq3 ?_) | ((first | refine zq4 ?_ | refine zq5 fun _ _ => ?_ | refine zq6 ?_); simp [-getElem?_pos, z0, z1, z2, ]) | ((first | refine AWp.ret ?_ | refine AWp.skip ?_ | refine AWp.exit ?_); try simp only [thenP]) | (with_reducible refine zq7 ?_; simp only [blockP, thenP, reduceIte]) | with_reducible refine zq8 ?_)
  refine AWp.loopK (ι := { k : Nat // k ≤ l.length ∧ (l.take k).all okS = true }) (n := 0) (fun k => [(10, .d (boxD l)), (11, .d (iD l.length)), (12, .d (iD k.1))]) (fun _ => []) (fun k => l.length - k.1) ⟨0, Nat.zero_le _, by simp⟩ [] ?_ ?_
  · refine ⟨by rfl, by simp [], by simp [or_imp, forall_and, ] <;> (try (intro _hne; simp [_hne])), by decide⟩
  rintro ⟨k, hk, hall⟩ kk
  have w1 : IntKind.i64.wrap ((k : Int) + 1) = (k : Int) + 1 := wrap64_in (by omega)
  by_cases hlt : k < l.length
  · obtain ⟨t, ht⟩ : ∃ t, l[k]? = some t := ⟨_, List.getElem?_eq_getElem hlt⟩
    have ci := isStone_c t
    rcases g : okS t <;> rw [g] at ci
    · have hr' : r = 3 := by rw [hr, allK_not ht g]; rfl
      repeat (first | (with_reducible first | refine zq1 fun _ => ?_ | refine zq2 fun _ => ?_ | refine zq3 ?_) | ((first | refine zq4 ?_ | refine zq5 fun _ _ => ?_ | refine zq6 ?_); simp [-getElem?_pos, z0, z1, z2, hlt, ht]) | ((first | refine AWp.ret ?_ | refine AWp.skip ?_ | refine AWp.exit ?_); try simp only [thenP]) | (with_reducible refine zq7 ?_; simp only [blockP, thenP, reduceIte]) | with_reducible refine zq8 ?_)
      (first | refine Exec0.call [] ci ?_ rfl ?_ ?_ | refine Exec.call [] ci ?_ rfl ?_ ?_); (focus simp [-getElem?_pos, ]); (focus simp [-getElem?_pos, z0, z1, z2, ]); simp [-getElem?_pos, z0, z1, z2, ]
      repeat (first | (with_reducible first | refine zq1 fun _ => ?_ | refine zq2 fun _ => ?_ | refine zq3 ?_) | ((first | refine zq4 ?_ | refine zq5 fun _ _ => ?_ | refine zq6 ?_); simp [-getElem?_pos, z0, z1, z2, ]) | ((first | refine AWp.ret ?_ | refine AWp.skip ?_ | refine AWp.exit ?_); try simp only [thenP]) | (with_reducible refine zq7 ?_; simp only [blockP, thenP, reduceIte]) | with_reducible refine zq8 ?_)
      (first | refine RR.ret ?_ | refine RR.normal ?_); simp [hr']
    · have hall2 : (l.take (k + 1)).all okS = true := by rw [allK_take ht, hall, g]; rfl
      repeat (first | (with_reducible first | refine zq1 fun _ => ?_ | refine zq2 fun _ => ?_ | refine zq3 ?_) | ((first | refine zq4 ?_ | refine zq5 fun _ _ => ?_ | refine zq6 ?_); simp [-getElem?_pos, z0, z1, z2, hlt, ht]) | ((first | refine AWp.ret ?_ | refine AWp.skip ?_ | refine AWp.exit ?_); try simp only [thenP]) | (with_reducible refine zq7 ?_; simp only [blockP, thenP, reduceIte]) | with_reducible refine zq8 ?_)
      (first | refine Exec0.call [] ci ?_ rfl ?_ ?_ | refine Exec.call [] ci ?_ rfl ?_ ?_); (focus simp [-getElem?_pos, ]); (focus simp [-getElem?_pos, z0, z1, z2, ]); simp [-getElem?_pos, z0, z1, z2, ]
      repeat (first | (with_reducible first | refine zq1 fun _ => ?_ | refine zq2 fun _ => ?_ | refine zq3 ?_) | ((first | refine zq4 ?_ | refine zq5 fun _ _ => ?_ | refine zq6 ?_); simp [-getElem?_pos, z0, z1, z2, w1]) | ((first | refine AWp.ret ?_ | refine AWp.skip ?_ | refine AWp.exit ?_); try simp only [thenP]) | (with_reducible refine zq7 ?_; simp only [blockP, thenP, reduceIte]) | with_reducible refine zq8 ?_)
      refine LL.go ⟨k + 1, hlt, hall2⟩ [] ⟨by rfl, by simp [], by simp [or_imp, forall_and, ] <;> (try (intro _hne; simp [_hne])), by decide⟩ ?_
      simp; omega
  · obtain rfl : k = l.length := by omega
    rw [List.take_of_length_le (Nat.le_refl _)] at hall
    have hr' : r = 0 := by rw [hr, hall]; rfl
    repeat (first | (with_reducible first | refine zq1 fun _ => ?_ | refine zq2 fun _ => ?_ | refine zq3 ?_) | ((first | refine zq4 ?_ | refine zq5 fun _ _ => ?_ | refine zq6 ?_); simp [-getElem?_pos, z0, z1, z2, hlt]) | ((first | refine AWp.ret ?_ | refine AWp.skip ?_ | refine AWp.exit ?_); try simp only [thenP]) | (with_reducible refine zq7 ?_; simp only [blockP, thenP, reduceIte]) | with_reducible refine zq8 ?_)
    (first | refine RR.ret ?_ | refine RR.normal ?_); simp [hr']
def chkErr (l : List HS) (es : List HE) : Int := if boxErr l = 0 then (if es.all okE then 0 else 2) else boxErr l
def chkB (l : List HS) (es : List HE) : List HS := if chkErr l es = 0 then l else []
set_option maxRecDepth 100000 in
set_option maxHeartbeats 4000000 in
theorem check_c (l : List HS) (es : List HE) (hes : es.length ≤ 1000) : ACall Try.prog 49 [boxD l, .list (heRows es)] (.tup [.agg [boxD (chkB l es)], iD (chkErr l es)]) := by
  obtain ⟨r, hr⟩ : ∃ r, r = chkErr l es := ⟨_, rfl⟩
  obtain ⟨b, hb⟩ : ∃ b, b = chkB l es := ⟨_, rfl⟩
  rw [← hr, ← hb]
  rw [chkB, ← hr] at hb
  have cb := checkBox_c l
  by_cases h0 : boxErr l = 0
  · rw [chkErr, if_pos h0] at hr
    rw [h0] at cb
    refine acallK tabOk Try.func49 rfl rfl (show 2 ≤ _ by decide) rfl fun _ => ?_; simp only [Try.ntmps49]
    repeat (first | (with_reducible first | refine zq1 fun _ => ?_ | refine zq2 fun _ => ?_ | refine zq3 ?_) | ((first | refine zq4 ?_ | refine zq5 fun _ _ => ?_ | refine zq6 ?_); simp [-getElem?_pos, z0, z1, z2, ]) | ((first | refine AWp.ret ?_ | refine AWp.skip ?_ | refine AWp.exit ?_); try simp only [thenP]) | (with_reducible refine zq7 ?_; simp only [blockP, thenP, reduceIte]) | with_reducible refine zq8 ?_)
    (first | refine Exec0.call [] cb ?_ rfl ?_ ?_ | refine Exec.call [] cb ?_ rfl ?_ ?_); (focus simp [-getElem?_pos, ]); (focus simp [-getElem?_pos, z0, z1, z2, ]); simp [-getElem?_pos, z0, z1, z2, ]
    repeat (first | (with_reducible first | refine zq1 fun _ => ?_ | refine zq2 fun _ => ?_ | refine zq3 ?_) | ((first | refine zq4 ?_ | refine zq5 fun _ _ => ?_ | refine zq6 ?_); simp [-getElem?_pos, z0, z1, z2, ]) | ((first | refine AWp.ret ?_ | refine AWp.skip ?_ | refine AWp.exit ?_); try simp only [thenP]) | (with_reducible refine zq7 ?_; simp only [blockP, thenP, reduceIte]) | with_reducible refine zq8 ?_)
    refine AWp.loopK (ι := { k : Nat // k ≤ es.length ∧ (es.take k).all okE = true }) (n := 1) (fun k => [(0, .d (boxD l)), (4, .ptr 0 0 0), (15, .d (.list (heRows es))), (16, .d (iD es.length)), (17, .d (iD k.1))]) (fun _ => [(0, .box 65 [.nilS] false)]) (fun k => es.length - k.1) ⟨0, Nat.zero_le _, by simp⟩ [0] ?_ ?_
    · refine ⟨by rfl, by simp [], by simp [or_imp, forall_and, ] <;> (try (intro _hne; simp [_hne])), by decide⟩
    rintro ⟨k, hk, hall⟩ kk
    have w1 : IntKind.i64.wrap ((k : Int) + 1) = (k : Int) + 1 := wrap64_in (by omega)
    by_cases hlt : k < es.length
    · obtain ⟨t, ht⟩ : ∃ t, es[k]? = some t := ⟨_, List.getElem?_eq_getElem hlt⟩
      have ci := isEdge_c t
      rcases g : okE t <;> rw [g] at ci
      · have hr' : r = 2 := by rw [hr, allK_not ht g]; rfl
        repeat (first | (with_reducible first | refine zq1 fun _ => ?_ | refine zq2 fun _ => ?_ | refine zq3 ?_) | ((first | refine zq4 ?_ | refine zq5 fun _ _ => ?_ | refine zq6 ?_); simp [-getElem?_pos, z0, z1, z2, hlt, ht]) | ((first | refine AWp.ret ?_ | refine AWp.skip ?_ | refine AWp.exit ?_); try simp only [thenP]) | (with_reducible refine zq7 ?_; simp only [blockP, thenP, reduceIte]) | with_reducible refine zq8 ?_)
        (first | refine Exec0.call [] ci ?_ rfl ?_ ?_ | refine Exec.call [] ci ?_ rfl ?_ ?_); (focus simp [-getElem?_pos, ]); (focus simp [-getElem?_pos, z0, z1, z2, ]); simp [-getElem?_pos, z0, z1, z2, ]
        repeat (first | (with_reducible first | refine zq1 fun _ => ?_ | refine zq2 fun _ => ?_ | refine zq3 ?_) | ((first | refine zq4 ?_ | refine zq5 fun _ _ => ?_ | refine zq6 ?_); simp [-getElem?_pos, z0, z1, z2, ]) | ((first | refine AWp.ret ?_ | refine AWp.skip ?_ | refine AWp.exit ?_); try simp only [thenP]) | (with_reducible refine zq7 ?_; simp only [blockP, thenP, reduceIte]) | with_reducible refine zq8 ?_)
        (first | refine RR.ret ?_ | refine RR.normal ?_); simp [hr', hb]
      · have hall2 : (es.take (k + 1)).all okE = true := by rw [allK_take ht, hall, g]; rfl
        repeat (first | (with_reducible first | refine zq1 fun _ => ?_ | refine zq2 fun _ => ?_ | refine zq3 ?_) | ((first | refine zq4 ?_ | refine zq5 fun _ _ => ?_ | refine zq6 ?_); simp [-getElem?_pos, z0, z1, z2, hlt, ht]) | ((first | refine AWp.ret ?_ | refine AWp.skip ?_ | refine AWp.exit ?_); try simp only [thenP]) | (with_reducible refine zq7 ?_; simp only [blockP, thenP, reduceIte]) | with_reducible refine zq8 ?_)
        (first | refine Exec0.call [] ci ?_ rfl ?_ ?_ | refine Exec.call [] ci ?_ rfl ?_ ?_); (focus simp [-getElem?_pos, ]); (focus simp [-getElem?_pos, z0, z1, z2, ]); simp [-getElem?_pos, z0, z1, z2, ]
        repeat (first | (with_reducible first | refine zq1 fun _ => ?_ | refine zq2 fun _ => ?_ | refine zq3 ?_) | ((first | refine zq4 ?_ | refine zq5 fun _ _ => ?_ | refine zq6 ?_); simp [-getElem?_pos, z0, z1, z2, w1]) | ((first | refine AWp.ret ?_ | refine AWp.skip ?_ | refine AWp.exit ?_); try simp only [thenP]) | (with_reducible refine zq7 ?_; simp only [blockP, thenP, reduceIte]) | with_reducible refine zq8 ?_)
        refine LL.go ⟨k + 1, hlt, hall2⟩ [0] ⟨by rfl, by simp [], by simp [or_imp, forall_and, ] <;> (try (intro _hne; simp [_hne])), by decide⟩ ?_
        simp; omega
    · obtain rfl : k = es.length := by omega
      rw [List.take_of_length_le (Nat.le_refl _)] at hall
      have hr' : r = 0 := by rw [hr, hall]; rfl
      repeat (first | (with_reducible first | refine zq1 fun _ => ?_ | refine zq2 fun _ => ?_ | refine zq3 ?_) | ((first | refine zq4 ?_ | refine zq5 fun _ _ => ?_ | refine zq6 ?_); simp [-getElem?_pos, z0, z1, z2, hlt]) | ((first | refine AWp.ret ?_ | refine AWp.skip ?_ | refine AWp.exit ?_); try simp only [thenP]) | (with_reducible refine zq7 ?_; simp only [blockP, thenP, reduceIte]) | with_reducible refine zq8 ?_)
      (first | refine RR.ret ?_ | refine RR.normal ?_); simp [hr', hb]
  · have hr' : r = boxErr l := hr.trans (if_neg h0)
    rw [hr'] at hb ⊢
    generalize boxErr l = e at *
    refine acallK tabOk Try.func49 rfl rfl (show 2 ≤ _ by decide) rfl fun _ => ?_; simp only [Try.ntmps49]
    repeat (first | (with_reducible first | refine zq1 fun _ => ?_ | refine zq2 fun _ => ?_ | refine zq3 ?_) | ((first | refine zq4 ?_ | refine zq5 fun _ _ => ?_ | refine zq6 ?_); simp [-getElem?_pos, z0, z1, z2, ]) | ((first | refine AWp.ret ?_ | refine AWp.skip ?_ | refine AWp.exit ?_); try simp only [thenP]) | (with_reducible refine zq7 ?_; simp only [blockP, thenP, reduceIte]) | with_reducible refine zq8 ?_)
    (first | refine Exec0.call [] cb ?_ rfl ?_ ?_ | refine Exec.call [] cb ?_ rfl ?_ ?_); (focus simp [-getElem?_pos, h0]); (focus simp [-getElem?_pos, z0, z1, z2, h0]); simp [-getElem?_pos, z0, z1, z2, h0]
    repeat (first | (with_reducible first | refine zq1 fun _ => ?_ | refine zq2 fun _ => ?_ | refine zq3 ?_) | ((first | refine zq4 ?_ | refine zq5 fun _ _ => ?_ | refine zq6 ?_); simp [-getElem?_pos, z0, z1, z2, h0]) | ((first | refine AWp.ret ?_ | refine AWp.skip ?_ | refine AWp.exit ?_); try simp only [thenP]) | (with_reducible refine zq7 ?_; simp only [blockP, thenP, reduceIte]) | with_reducible refine zq8 ?_)
    (first | refine RR.ret ?_ | refine RR.normal ?_); simp [hb, h0]
end Go.Proofs.Ytgiomfamlbmpcaa.Eng

namespace Go.Proofs.Ytgiomfamlbmpcaa.Eng
open Go.RowKit
def canS (s : HS) (e : HE) : Bool := decide (e.burr + s.burr ≤ 6)
def strE (s : HS) (e : HE) : HE := ⟨max s.grit (e.depth - s.cut), max 0 (e.burr + s.burr)⟩
def strR (s : HS) (e : HE) : HE := if canS s e then strE s e else ⟨0, 0⟩
structure GoodE (e : HE) : Prop where
  d0 : 0 ≤ e.depth
  d1 : e.depth ≤ 100
  b0 : 0 ≤ e.burr
  b1 : e.burr ≤ 6
structure GoodS (s : HS) : Prop where
  g0 : 0 ≤ s.grit
  g1 : s.grit ≤ 100
  c0 : 0 ≤ s.cut
  c1 : s.cut ≤ 100
  b0 : -6 ≤ s.burr
  b1 : s.burr ≤ 6
theorem goodE {e : HE} (h : okE e = true) : GoodE e := by
  rw [okE_eq] at h
  have := of_decide_eq_true h
  exact ⟨this.1.1, this.1.2, this.2.1, this.2.2⟩
theorem goodS {l : List HS} (h : l.all okS = true) {k : Nat} {s : HS} (hs : l[k]? = some s) : GoodS s := by
  have := okS_at h hs
  exact ⟨this.1.1, this.1.2, this.2.1.1, this.2.1.2, this.2.2.1, this.2.2.2⟩
theorem GoodE.str {s : HS} {e : HE} (hs : GoodS s) (he : GoodE e) (hc : canS s e = true) : GoodE (strE s e) := by
  obtain ⟨h1, h2, h3, h4⟩ := he
  obtain ⟨g1, g2, g3, g4, g5, g6⟩ := hs
  have := of_decide_eq_true hc
  exact ⟨by simp only [strE]; omega, by simp only [strE]; omega, by simp only [strE]; omega, by simp only [strE]; omega⟩
set_option maxRecDepth 100000 in
set_option maxHeartbeats 4000000 in
theorem stroke_c (l : List HS) (e : HE) {i : Nat} {s : HS} (hs : l[i]? = some s) (gs : GoodS s) (ge : GoodE e) : ACall Try.prog 51 [.agg [boxD l], edgD e, iD i] (.tup [edgD (strR s e), bD (canS s e)]) := by
  obtain ⟨h1, h2, h3, h4⟩ := ge
  obtain ⟨g1, g2, g3, g4, g5, g6⟩ := gs
  have hlt : i < l.length := (List.getElem?_eq_some_iff.1 hs).1
  have w1 : IntKind.i64.wrap (e.burr + s.burr) = e.burr + s.burr := wrap64_in (by omega)
  have w2 : IntKind.i64.wrap (e.depth - s.cut) = e.depth - s.cut := wrap64_in (by omega)
  have m1 : (if s.grit < e.depth - s.cut then e.depth - s.cut else s.grit) = max s.grit (e.depth - s.cut) := by split <;> omega
  have m2 : (if 0 < e.burr + s.burr then e.burr + s.burr else 0) = max 0 (e.burr + s.burr) := by split <;> omega
  by_cases g : 6 < e.burr + s.burr
  · have hc : canS s e = false := decide_eq_false (by omega)
    rw [strR, hc]
    refine acallK tabOk Try.func51 rfl rfl (show 3 ≤ _ by decide) rfl fun _ => ?_; simp only [Try.ntmps51]
    repeat (first | (with_reducible first | refine zq1 fun _ => ?_ | refine zq2 fun _ => ?_ | refine zq3 ?_) | ((first | refine zq4 ?_ | refine zq5 fun _ _ => ?_ | refine zq6 ?_); simp [-getElem?_pos, z0, z1, z2, hs, hlt, w1, w2, g]) | ((first | refine AWp.ret ?_ | refine AWp.skip ?_ | refine AWp.exit ?_); try simp only [thenP]) | (with_reducible refine zq7 ?_; simp only [blockP, thenP, reduceIte]) | with_reducible refine zq8 ?_)
    (first | refine RR.ret ?_ | refine RR.normal ?_); simp []
  · have hc : canS s e = true := decide_eq_true (by omega)
    rw [strR, hc]
    refine acallK tabOk Try.func51 rfl rfl (show 3 ≤ _ by decide) rfl fun _ => ?_; simp only [Try.ntmps51]
    repeat (first | (with_reducible first | refine zq1 fun _ => ?_ | refine zq2 fun _ => ?_ | refine zq3 ?_) | ((first | refine zq4 ?_ | refine zq5 fun _ _ => ?_ | refine zq6 ?_); simp [-getElem?_pos, z0, z1, z2, hs, hlt, w1, w2, g]) | ((first | refine AWp.ret ?_ | refine AWp.skip ?_ | refine AWp.exit ?_); try simp only [thenP]) | (with_reducible refine zq7 ?_; simp only [blockP, thenP, reduceIte]) | with_reducible refine zq8 ?_)
    (first | refine RR.ret ?_ | refine RR.normal ?_); simp [strE, m1, m2]
def runE (l : List HS) : List Int → HE → Option HE
  | [], e => some e
  | i :: t, e => match l[i.toNat]? with
    | some s => if canS s e then runE l t (strE s e) else none
    | none => none
theorem runE_take {l : List HS} {t : List Int} {k : Nat} {i : Int} {e e1 : HE} {s : HS} (hi : t[k]? = some i) (h : runE l (t.take k) e = some e1) (hs : l[i.toNat]? = some s) : runE l (t.take (k + 1)) e = (if canS s e1 then some (strE s e1) else none) := by
  induction t generalizing k e with
  | nil => cases hi
  | cons j t ih =>
    cases k with
    | zero =>
      simp at hi
      subst hi
      simp [runE] at h
      subst h
      simp [runE, hs]
    | succ k =>
      simp only [List.take_succ_cons, runE] at h ⊢
      split at h
      · rename_i s' hs'
        split at h
        · rename_i hc
          simp only [hc, if_true]
          exact ih (by simpa using hi) h
        · cases h
      · cases h
theorem runE_stop {l : List HS} {t : List Int} {k : Nat} {e : HE} (h : runE l (t.take k) e = none) : runE l t e = none := by
  induction t generalizing k e with
  | nil => simpa using h
  | cons j t ih =>
    cases k with
    | zero => simp [runE] at h
    | succ k =>
      simp only [List.take_succ_cons, runE] at h ⊢
      split
      · rename_i s hs
        simp only [hs] at h
        split
        · rename_i hc
          simp only [hc, if_true] at h
          exact ih h
        · rfl
      · rfl
def aftE (l : List HS) (e : HE) (t : List Int) : Int :=
  if chkErr l [e] = 0 then (if 800 < t.length then 6 else if fromK 0 (l.length - 1) t = false then 3 else match runE l t e with
    | some _ => 0
    | none => 16) else chkErr l [e]
def aftR (l : List HS) (e : HE) (t : List Int) : HE :=
  if chkErr l [e] = 0 then (if 800 < t.length then ⟨0, 0⟩ else if fromK 0 (l.length - 1) t = false then ⟨0, 0⟩ else (runE l t e).getD ⟨0, 0⟩) else ⟨0, 0⟩
structure BoxOk (l : List HS) : Prop where
  n1 : 1 ≤ l.length
  n2 : l.length ≤ 6
  all : l.all okS = true
theorem chkOk {l : List HS} {es : List HE} (h : chkErr l es = 0) : BoxOk l ∧ es.all okE = true := by
  unfold chkErr at h
  split at h
  · rename_i h0
    obtain ⟨h1, h2⟩ := boxOk h0
    refine ⟨⟨h1.1, h1.2, h2⟩, ?_⟩
    split at h
    · assumption
    · cases h
  · rename_i h0
    exact absurd h h0
theorem runE_good {l : List HS} (hl : l.all okS = true) : ∀ {t : List Int} {e e1 : HE}, GoodE e → runE l t e = some e1 → GoodE e1
  | [], e, e1, he, h => by cases h; exact he
  | i :: t, e, e1, he, h => by
    simp only [runE] at h
    split at h
    · rename_i s hs
      split at h
      · rename_i hc
        exact runE_good hl (GoodE.str (goodS hl hs) he hc) h
      · cases h
    · cases h
set_option maxRecDepth 100000 in
set_option maxHeartbeats 4000000 in
theorem after_c (l : List HS) (e : HE) (t : List Int) (ht : t.length ≤ 1000000) : ACall Try.prog 17 [boxD l, edgD e, intL t] (.tup [edgD (aftR l e t), iD (aftE l e t)]) := by
  obtain ⟨r, hr⟩ : ∃ r, r = aftE l e t := ⟨_, rfl⟩
  obtain ⟨x, hx⟩ : ∃ x, x = aftR l e t := ⟨_, rfl⟩
  rw [← hr, ← hx]
  unfold aftE at hr
  unfold aftR at hx
  have cb : ACall Try.prog 49 [boxD l, .list [[iD e.depth, iD e.burr]]] (.tup [.agg [boxD (chkB l [e])], iD (chkErr l [e])]) := check_c l [e] (by simp)
  by_cases h0 : chkErr l [e] = 0
  · obtain ⟨hb, hes⟩ := chkOk h0
    have ge := goodE (e := e) (by simpa using hes)
    rw [if_pos h0] at hr hx
    have hcb : chkB l [e] = l := if_pos h0
    rw [h0, hcb] at cb
    by_cases h1 : 800 < t.length
    · have h1' : (800 : Int) < t.length := by omega
      rw [if_pos h1] at hr hx
      subst hx
      refine acallK tabOk Try.func17 rfl rfl (show 3 ≤ _ by decide) rfl fun _ => ?_; simp only [Try.ntmps17]
      repeat (first | (with_reducible first | refine zq1 fun _ => ?_ | refine zq2 fun _ => ?_ | refine zq3 ?_) | ((first | refine zq4 ?_ | refine zq5 fun _ _ => ?_ | refine zq6 ?_); simp [-getElem?_pos, z0, z1, z2, ]) | ((first | refine AWp.ret ?_ | refine AWp.skip ?_ | refine AWp.exit ?_); try simp only [thenP]) | (with_reducible refine zq7 ?_; simp only [blockP, thenP, reduceIte]) | with_reducible refine zq8 ?_)
      (first | refine Exec0.call [5] cb ?_ rfl ?_ ?_ | refine Exec.call [5] cb ?_ rfl ?_ ?_); (focus simp [-getElem?_pos, ]); (focus simp [-getElem?_pos, z0, z1, z2, ]); simp [-getElem?_pos, z0, z1, z2, ]
      repeat (first | (with_reducible first | refine zq1 fun _ => ?_ | refine zq2 fun _ => ?_ | refine zq3 ?_) | ((first | refine zq4 ?_ | refine zq5 fun _ _ => ?_ | refine zq6 ?_); simp [-getElem?_pos, z0, z1, z2, h1, h1']) | ((first | refine AWp.ret ?_ | refine AWp.skip ?_ | refine AWp.exit ?_); try simp only [thenP]) | (with_reducible refine zq7 ?_; simp only [blockP, thenP, reduceIte]) | with_reducible refine zq8 ?_)
      (first | refine RR.ret ?_ | refine RR.normal ?_); simp [hr]
    have h1' : ¬ (800 : Int) < t.length := by omega
    rw [if_neg h1] at hr hx
    have n1 := hb.n1
    have n2 := hb.n2
    have wl : IntKind.i64.wrap ((l.length : Int) - 1) = (l.length : Int) - 1 := wrap64_in (by omega)
    have ca := areFrom_c 0 ((l.length : Int) - 1) t ht
    rcases g : fromK 0 ((l.length : Int) - 1) t <;> rw [g] at ca hr hx
    · subst hx
      refine acallK tabOk Try.func17 rfl rfl (show 3 ≤ _ by decide) rfl fun _ => ?_; simp only [Try.ntmps17]
      repeat (first | (with_reducible first | refine zq1 fun _ => ?_ | refine zq2 fun _ => ?_ | refine zq3 ?_) | ((first | refine zq4 ?_ | refine zq5 fun _ _ => ?_ | refine zq6 ?_); simp [-getElem?_pos, z0, z1, z2, ]) | ((first | refine AWp.ret ?_ | refine AWp.skip ?_ | refine AWp.exit ?_); try simp only [thenP]) | (with_reducible refine zq7 ?_; simp only [blockP, thenP, reduceIte]) | with_reducible refine zq8 ?_)
      (first | refine Exec0.call [5] cb ?_ rfl ?_ ?_ | refine Exec.call [5] cb ?_ rfl ?_ ?_); (focus simp [-getElem?_pos, ]); (focus simp [-getElem?_pos, z0, z1, z2, ]); simp [-getElem?_pos, z0, z1, z2, ]
      repeat (first | (with_reducible first | refine zq1 fun _ => ?_ | refine zq2 fun _ => ?_ | refine zq3 ?_) | ((first | refine zq4 ?_ | refine zq5 fun _ _ => ?_ | refine zq6 ?_); simp [-getElem?_pos, z0, z1, z2, h1, h1', wl]) | ((first | refine AWp.ret ?_ | refine AWp.skip ?_ | refine AWp.exit ?_); try simp only [thenP]) | (with_reducible refine zq7 ?_; simp only [blockP, thenP, reduceIte]) | with_reducible refine zq8 ?_)
      (first | refine Exec0.call [] ca ?_ rfl ?_ ?_ | refine Exec.call [] ca ?_ rfl ?_ ?_); (focus simp [-getElem?_pos, wl]); (focus simp [-getElem?_pos, z0, z1, z2, wl]); simp [-getElem?_pos, z0, z1, z2, wl]
      repeat (first | (with_reducible first | refine zq1 fun _ => ?_ | refine zq2 fun _ => ?_ | refine zq3 ?_) | ((first | refine zq4 ?_ | refine zq5 fun _ _ => ?_ | refine zq6 ?_); simp [-getElem?_pos, z0, z1, z2, ]) | ((first | refine AWp.ret ?_ | refine AWp.skip ?_ | refine AWp.exit ?_); try simp only [thenP]) | (with_reducible refine zq7 ?_; simp only [blockP, thenP, reduceIte]) | with_reducible refine zq8 ?_)
      (first | refine RR.ret ?_ | refine RR.normal ?_); simp [hr]
    simp only [reduceCtorEq, if_false] at hr hx
    refine acallK tabOk Try.func17 rfl rfl (show 3 ≤ _ by decide) rfl fun _ => ?_; simp only [Try.ntmps17]
    repeat (first | (with_reducible first | refine zq1 fun _ => ?_ | refine zq2 fun _ => ?_ | refine zq3 ?_) | ((first | refine zq4 ?_ | refine zq5 fun _ _ => ?_ | refine zq6 ?_); simp [-getElem?_pos, z0, z1, z2, ]) | ((first | refine AWp.ret ?_ | refine AWp.skip ?_ | refine AWp.exit ?_); try simp only [thenP]) | (with_reducible refine zq7 ?_; simp only [blockP, thenP, reduceIte]) | with_reducible refine zq8 ?_)
    (first | refine Exec0.call [5] cb ?_ rfl ?_ ?_ | refine Exec.call [5] cb ?_ rfl ?_ ?_); (focus simp [-getElem?_pos, ]); (focus simp [-getElem?_pos, z0, z1, z2, ]); simp [-getElem?_pos, z0, z1, z2, ]
    repeat (first | (with_reducible first | refine zq1 fun _ => ?_ | refine zq2 fun _ => ?_ | refine zq3 ?_) | ((first | refine zq4 ?_ | refine zq5 fun _ _ => ?_ | refine zq6 ?_); simp [-getElem?_pos, z0, z1, z2, h1, h1', wl]) | ((first | refine AWp.ret ?_ | refine AWp.skip ?_ | refine AWp.exit ?_); try simp only [thenP]) | (with_reducible refine zq7 ?_; simp only [blockP, thenP, reduceIte]) | with_reducible refine zq8 ?_)
    (first | refine Exec0.call [] ca ?_ rfl ?_ ?_ | refine Exec.call [] ca ?_ rfl ?_ ?_); (focus simp [-getElem?_pos, wl]); (focus simp [-getElem?_pos, z0, z1, z2, wl]); simp [-getElem?_pos, z0, z1, z2, wl]
    repeat (first | (with_reducible first | refine zq1 fun _ => ?_ | refine zq2 fun _ => ?_ | refine zq3 ?_) | ((first | refine zq4 ?_ | refine zq5 fun _ _ => ?_ | refine zq6 ?_); simp [-getElem?_pos, z0, z1, z2, ]) | ((first | refine AWp.ret ?_ | refine AWp.skip ?_ | refine AWp.exit ?_); try simp only [thenP]) | (with_reducible refine zq7 ?_; simp only [blockP, thenP, reduceIte]) | with_reducible refine zq8 ?_)
    refine AWp.loopK (ι := { q : Nat × HE // q.1 ≤ t.length ∧ runE l (t.take q.1) e = some q.2 }) (n := 3) (fun q => [(4, .ptr 0 0 0), (6, .ptr 1 0 0), (8, .ptr 2 0 0), (36, .d (intL t)), (37, .d (iD t.length)), (38, .d (iD q.1.1))]) (fun q => [(0, .box 24 [.d (iD q.1.2.depth), .d (iD q.1.2.burr)] false), (1, .box 24 [.d (iD 0), .d (iD 0)] false), (2, .box 65 [.d (boxD l)] false)]) (fun q => t.length - q.1.1) ⟨(0, e), Nat.zero_le _, by simp [runE]⟩ [0, 1, 10] ?_ ?_
    · refine ⟨by rfl, by simp [], by simp [or_imp, forall_and, ] <;> (try (intro _hne; simp [_hne])), by decide⟩
    rintro ⟨⟨k, e1⟩, hk, hrun⟩ kk
    simp only at hk hrun
    have w1 : IntKind.i64.wrap ((k : Int) + 1) = (k : Int) + 1 := wrap64_in (by omega)
    by_cases hlt : k < t.length
    · obtain ⟨i, hi⟩ : ∃ i, t[k]? = some i := ⟨_, List.getElem?_eq_getElem hlt⟩
      have hib := fromK_mem g hi
      obtain ⟨j, rfl⟩ := Int.eq_ofNat_of_zero_le hib.1
      obtain ⟨s, hs⟩ : ∃ s, l[j]? = some s := ⟨_, List.getElem?_eq_getElem (by omega)⟩
      have hstep := runE_take hi hrun (s := s) (by simpa using hs)
      have cs := stroke_c l e1 hs (goodS hb.all hs) (runE_good hb.all ge hrun)
      rcases hc : canS s e1 <;> rw [hc] at cs hstep
      · have hnone : runE l t e = none := runE_stop (k := k + 1) (by rw [hstep]; rfl)
        rw [hnone] at hr hx
        simp only [Option.getD_none] at hx
        subst hx
        generalize strR s e1 = e2 at *
        repeat (first | (with_reducible first | refine zq1 fun _ => ?_ | refine zq2 fun _ => ?_ | refine zq3 ?_) | ((first | refine zq4 ?_ | refine zq5 fun _ _ => ?_ | refine zq6 ?_); simp [-getElem?_pos, z0, z1, z2, hlt, hi]) | ((first | refine AWp.ret ?_ | refine AWp.skip ?_ | refine AWp.exit ?_); try simp only [thenP]) | (with_reducible refine zq7 ?_; simp only [blockP, thenP, reduceIte]) | with_reducible refine zq8 ?_)
        (first | refine Exec0.call [] cs ?_ rfl ?_ ?_ | refine Exec.call [] cs ?_ rfl ?_ ?_); (focus simp [-getElem?_pos, ]); (focus simp [-getElem?_pos, z0, z1, z2, ]); simp [-getElem?_pos, z0, z1, z2, ]
        repeat (first | (with_reducible first | refine zq1 fun _ => ?_ | refine zq2 fun _ => ?_ | refine zq3 ?_) | ((first | refine zq4 ?_ | refine zq5 fun _ _ => ?_ | refine zq6 ?_); simp [-getElem?_pos, z0, z1, z2, ]) | ((first | refine AWp.ret ?_ | refine AWp.skip ?_ | refine AWp.exit ?_); try simp only [thenP]) | (with_reducible refine zq7 ?_; simp only [blockP, thenP, reduceIte]) | with_reducible refine zq8 ?_)
        (first | refine RR.ret ?_ | refine RR.normal ?_); simp [hr]
      · have hgo : runE l (t.take (k + 1)) e = some (strE s e1) := by rw [hstep]; rfl
        have hsr : strR s e1 = strE s e1 := by rw [strR, hc]; rfl
        rw [hsr] at cs
        generalize strE s e1 = e2 at *
        repeat (first | (with_reducible first | refine zq1 fun _ => ?_ | refine zq2 fun _ => ?_ | refine zq3 ?_) | ((first | refine zq4 ?_ | refine zq5 fun _ _ => ?_ | refine zq6 ?_); simp [-getElem?_pos, z0, z1, z2, hlt, hi]) | ((first | refine AWp.ret ?_ | refine AWp.skip ?_ | refine AWp.exit ?_); try simp only [thenP]) | (with_reducible refine zq7 ?_; simp only [blockP, thenP, reduceIte]) | with_reducible refine zq8 ?_)
        (first | refine Exec0.call [] cs ?_ rfl ?_ ?_ | refine Exec.call [] cs ?_ rfl ?_ ?_); (focus simp [-getElem?_pos, ]); (focus simp [-getElem?_pos, z0, z1, z2, ]); simp [-getElem?_pos, z0, z1, z2, ]
        repeat (first | (with_reducible first | refine zq1 fun _ => ?_ | refine zq2 fun _ => ?_ | refine zq3 ?_) | ((first | refine zq4 ?_ | refine zq5 fun _ _ => ?_ | refine zq6 ?_); simp [-getElem?_pos, z0, z1, z2, w1]) | ((first | refine AWp.ret ?_ | refine AWp.skip ?_ | refine AWp.exit ?_); try simp only [thenP]) | (with_reducible refine zq7 ?_; simp only [blockP, thenP, reduceIte]) | with_reducible refine zq8 ?_)
        refine LL.go ⟨(k + 1, e2), hlt, hgo⟩ [0, 1, 2] ⟨by rfl, by simp [], by simp [or_imp, forall_and, ] <;> (try (intro _hne; simp [_hne])), by decide⟩ ?_
        simp; omega
    · obtain rfl : k = t.length := by omega
      rw [List.take_of_length_le (Nat.le_refl _)] at hrun
      rw [hrun] at hr hx
      simp only [Option.getD_some] at hx
      subst hx
      repeat (first | (with_reducible first | refine zq1 fun _ => ?_ | refine zq2 fun _ => ?_ | refine zq3 ?_) | ((first | refine zq4 ?_ | refine zq5 fun _ _ => ?_ | refine zq6 ?_); simp [-getElem?_pos, z0, z1, z2, hlt]) | ((first | refine AWp.ret ?_ | refine AWp.skip ?_ | refine AWp.exit ?_); try simp only [thenP]) | (with_reducible refine zq7 ?_; simp only [blockP, thenP, reduceIte]) | with_reducible refine zq8 ?_)
      (first | refine RR.ret ?_ | refine RR.normal ?_); simp [hr]
  · rw [if_neg h0] at hr hx
    subst hx
    rw [← hr] at h0 cb
    refine acallK tabOk Try.func17 rfl rfl (show 3 ≤ _ by decide) rfl fun _ => ?_; simp only [Try.ntmps17]
    repeat (first | (with_reducible first | refine zq1 fun _ => ?_ | refine zq2 fun _ => ?_ | refine zq3 ?_) | ((first | refine zq4 ?_ | refine zq5 fun _ _ => ?_ | refine zq6 ?_); simp [-getElem?_pos, z0, z1, z2, ]) | ((first | refine AWp.ret ?_ | refine AWp.skip ?_ | refine AWp.exit ?_); try simp only [thenP]) | (with_reducible refine zq7 ?_; simp only [blockP, thenP, reduceIte]) | with_reducible refine zq8 ?_)
    (first | refine Exec0.call [5] cb ?_ rfl ?_ ?_ | refine Exec.call [5] cb ?_ rfl ?_ ?_); (focus simp [-getElem?_pos, ]); (focus simp [-getElem?_pos, z0, z1, z2, ]); simp [-getElem?_pos, z0, z1, z2, ]
    repeat (first | (with_reducible first | refine zq1 fun _ => ?_ | refine zq2 fun _ => ?_ | refine zq3 ?_) | ((first | refine zq4 ?_ | refine zq5 fun _ _ => ?_ | refine zq6 ?_); simp [-getElem?_pos, z0, z1, z2, h0]) | ((first | refine AWp.ret ?_ | refine AWp.skip ?_ | refine AWp.exit ?_); try simp only [thenP]) | (with_reducible refine zq7 ?_; simp only [blockP, thenP, reduceIte]) | with_reducible refine zq8 ?_)
    (first | refine RR.ret ?_ | refine RR.normal ?_); simp [h0]
end Go.Proofs.Ytgiomfamlbmpcaa.Eng

namespace Go.Proofs.Ytgiomfamlbmpcaa.Eng
open Go.RowKit
theorem okS_bad {l : List HS} {k : Nat} {s : HS} (hs : l[k]? = some s) (h : ¬ ((0 ≤ s.grit ∧ s.grit ≤ 100) ∧ (0 ≤ s.cut ∧ s.cut ≤ 100) ∧ -6 ≤ s.burr ∧ s.burr ≤ 6)) : l.all okS = false :=
  allK_not hs (by rw [okS_eq]; exact decide_eq_false h)
set_option maxRecDepth 100000 in
set_option maxHeartbeats 8000000 in
theorem refCheckBox_c (l : List HS) : ACall Try.prog 20 [boxD l] (iD (boxErr l)) := by
  obtain ⟨r, hr⟩ : ∃ r, r = boxErr l := ⟨_, rfl⟩
  rw [← hr]
  unfold boxErr at hr
  by_cases g1 : l.length < 1
  · have g1' : (l.length : Int) < 1 := by omega
    rw [if_pos (Or.inl g1)] at hr
    have g0 : l = [] := List.eq_nil_of_length_eq_zero (by omega)
    refine acallK tabOk Try.func20 rfl rfl (show 1 ≤ _ by decide) rfl fun _ => ?_; simp only [Try.ntmps20]
    repeat (first | (with_reducible first | refine zq1 fun _ => ?_ | refine zq2 fun _ => ?_ | refine zq3 ?_) | ((first | refine zq4 ?_ | refine zq5 fun _ _ => ?_ | refine zq6 ?_); simp [-getElem?_pos, z0, z1, z2, g1, g1', g0]) | ((first | refine AWp.ret ?_ | refine AWp.skip ?_ | refine AWp.exit ?_); try simp only [thenP]) | (with_reducible refine zq7 ?_; simp only [blockP, thenP, reduceIte]) | with_reducible refine zq8 ?_)
    (first | refine RR.ret ?_ | refine RR.normal ?_); simp [hr]
  have g1' : ¬ (l.length : Int) < 1 := by omega
  have g0 : ¬ l = [] := fun h => g1 (by simp [h])
  by_cases g2 : 6 < l.length
  · have g2' : (6 : Int) < l.length := by omega
    rw [if_pos (Or.inr g2)] at hr
    refine acallK tabOk Try.func20 rfl rfl (show 1 ≤ _ by decide) rfl fun _ => ?_; simp only [Try.ntmps20]
    repeat (first | (with_reducible first | refine zq1 fun _ => ?_ | refine zq2 fun _ => ?_ | refine zq3 ?_) | ((first | refine zq4 ?_ | refine zq5 fun _ _ => ?_ | refine zq6 ?_); simp [-getElem?_pos, z0, z1, z2, g1, g1', g0, g2, g2']) | ((first | refine AWp.ret ?_ | refine AWp.skip ?_ | refine AWp.exit ?_); try simp only [thenP]) | (with_reducible refine zq7 ?_; simp only [blockP, thenP, reduceIte]) | with_reducible refine zq8 ?_)
    (first | refine RR.ret ?_ | refine RR.normal ?_); simp [hr]
  have g2' : ¬ (6 : Int) < l.length := by omega
  rw [if_neg (by omega)] at hr
  refine acallK tabOk Try.func20 rfl rfl (show 1 ≤ _ by decide) rfl fun _ => ?_; simp only [Try.ntmps20]
  repeat (first | (with_reducible first | refine zq1 fun _ => ?_ | refine zq2 fun _ => ?_ | refine zq3 ?_) | ((first | refine zq4 ?_ | refine zq5 fun _ _ => ?_ | refine zq6 ?_); simp [-getElem?_pos, z0, z1, z2, g1, g1', g0, g2, g2']) | ((first | refine AWp.ret ?_ | refine AWp.skip ?_ | refine AWp.exit ?_); try simp only [thenP]) | (with_reducible refine zq7 ?_; simp only [blockP, thenP, reduceIte]) | with_reducible refine zq8 ?_)
  refine AWp.loopK (ι := { k : Nat // k ≤ l.length ∧ (l.take k).all okS = true }) (n := 0) (fun k => [(0, .d (boxD l)), (3, .d (iD k.1))]) (fun _ => []) (fun k => l.length - k.1) ⟨0, Nat.zero_le _, by simp⟩ [] ?_ ?_
  · refine ⟨by rfl, by simp [], by simp [or_imp, forall_and, ] <;> (try (intro _hne; simp [_hne])), by decide⟩
  rintro ⟨k, hk, hall⟩ kk
  have w1 : IntKind.i64.wrap ((k : Int) + 1) = (k : Int) + 1 := wrap64_in (by omega)
  by_cases hlt : k < l.length
  · obtain ⟨t, ht⟩ : ∃ t, l[k]? = some t := ⟨_, List.getElem?_eq_getElem hlt⟩
    have bad : ¬ ((0 ≤ t.grit ∧ t.grit ≤ 100) ∧ (0 ≤ t.cut ∧ t.cut ≤ 100) ∧ -6 ≤ t.burr ∧ t.burr ≤ 6) → r = 3 := fun h => by rw [hr, okS_bad ht h]; rfl
    by_cases h1 : t.grit < 0
    · have hr' := bad (by omega)
      repeat (first | (with_reducible first | refine zq1 fun _ => ?_ | refine zq2 fun _ => ?_ | refine zq3 ?_) | ((first | refine zq4 ?_ | refine zq5 fun _ _ => ?_ | refine zq6 ?_); simp [-getElem?_pos, z0, z1, z2, hlt, ht, h1]) | ((first | refine AWp.ret ?_ | refine AWp.skip ?_ | refine AWp.exit ?_); try simp only [thenP]) | (with_reducible refine zq7 ?_; simp only [blockP, thenP, reduceIte]) | with_reducible refine zq8 ?_)
      (first | refine RR.ret ?_ | refine RR.normal ?_); simp [hr']
    by_cases h2 : 100 < t.grit
    · have hr' := bad (by omega)
      repeat (first | (with_reducible first | refine zq1 fun _ => ?_ | refine zq2 fun _ => ?_ | refine zq3 ?_) | ((first | refine zq4 ?_ | refine zq5 fun _ _ => ?_ | refine zq6 ?_); simp [-getElem?_pos, z0, z1, z2, hlt, ht, h1, h2]) | ((first | refine AWp.ret ?_ | refine AWp.skip ?_ | refine AWp.exit ?_); try simp only [thenP]) | (with_reducible refine zq7 ?_; simp only [blockP, thenP, reduceIte]) | with_reducible refine zq8 ?_)
      (first | refine RR.ret ?_ | refine RR.normal ?_); simp [hr']
    by_cases h3 : t.cut < 0
    · have hr' := bad (by omega)
      repeat (first | (with_reducible first | refine zq1 fun _ => ?_ | refine zq2 fun _ => ?_ | refine zq3 ?_) | ((first | refine zq4 ?_ | refine zq5 fun _ _ => ?_ | refine zq6 ?_); simp [-getElem?_pos, z0, z1, z2, hlt, ht, h1, h2, h3]) | ((first | refine AWp.ret ?_ | refine AWp.skip ?_ | refine AWp.exit ?_); try simp only [thenP]) | (with_reducible refine zq7 ?_; simp only [blockP, thenP, reduceIte]) | with_reducible refine zq8 ?_)
      (first | refine RR.ret ?_ | refine RR.normal ?_); simp [hr']
    by_cases h4 : 100 < t.cut
    · have hr' := bad (by omega)
      repeat (first | (with_reducible first | refine zq1 fun _ => ?_ | refine zq2 fun _ => ?_ | refine zq3 ?_) | ((first | refine zq4 ?_ | refine zq5 fun _ _ => ?_ | refine zq6 ?_); simp [-getElem?_pos, z0, z1, z2, hlt, ht, h1, h2, h3, h4]) | ((first | refine AWp.ret ?_ | refine AWp.skip ?_ | refine AWp.exit ?_); try simp only [thenP]) | (with_reducible refine zq7 ?_; simp only [blockP, thenP, reduceIte]) | with_reducible refine zq8 ?_)
      (first | refine RR.ret ?_ | refine RR.normal ?_); simp [hr']
    by_cases h5 : t.burr < -6
    · have hr' := bad (by omega)
      repeat (first | (with_reducible first | refine zq1 fun _ => ?_ | refine zq2 fun _ => ?_ | refine zq3 ?_) | ((first | refine zq4 ?_ | refine zq5 fun _ _ => ?_ | refine zq6 ?_); simp [-getElem?_pos, z0, z1, z2, hlt, ht, h1, h2, h3, h4, h5]) | ((first | refine AWp.ret ?_ | refine AWp.skip ?_ | refine AWp.exit ?_); try simp only [thenP]) | (with_reducible refine zq7 ?_; simp only [blockP, thenP, reduceIte]) | with_reducible refine zq8 ?_)
      (first | refine RR.ret ?_ | refine RR.normal ?_); simp [hr']
    by_cases h6 : 6 < t.burr
    · have hr' := bad (by omega)
      repeat (first | (with_reducible first | refine zq1 fun _ => ?_ | refine zq2 fun _ => ?_ | refine zq3 ?_) | ((first | refine zq4 ?_ | refine zq5 fun _ _ => ?_ | refine zq6 ?_); simp [-getElem?_pos, z0, z1, z2, hlt, ht, h1, h2, h3, h4, h5, h6]) | ((first | refine AWp.ret ?_ | refine AWp.skip ?_ | refine AWp.exit ?_); try simp only [thenP]) | (with_reducible refine zq7 ?_; simp only [blockP, thenP, reduceIte]) | with_reducible refine zq8 ?_)
      (first | refine RR.ret ?_ | refine RR.normal ?_); simp [hr']
    have hall2 : (l.take (k + 1)).all okS = true := by
      rw [allK_take ht, hall, okS_eq, Bool.true_and]
      exact decide_eq_true ⟨⟨by omega, by omega⟩, ⟨by omega, by omega⟩, by omega, by omega⟩
    repeat (first | (with_reducible first | refine zq1 fun _ => ?_ | refine zq2 fun _ => ?_ | refine zq3 ?_) | ((first | refine zq4 ?_ | refine zq5 fun _ _ => ?_ | refine zq6 ?_); simp [-getElem?_pos, z0, z1, z2, hlt, ht, h1, h2, h3, h4, h5, h6, w1]) | ((first | refine AWp.ret ?_ | refine AWp.skip ?_ | refine AWp.exit ?_); try simp only [thenP]) | (with_reducible refine zq7 ?_; simp only [blockP, thenP, reduceIte]) | with_reducible refine zq8 ?_)
    refine LL.go ⟨k + 1, hlt, hall2⟩ [] ⟨by rfl, by simp [], by simp [or_imp, forall_and, ] <;> (try (intro _hne; simp [_hne])), by decide⟩ ?_
    simp; omega
  · obtain rfl : k = l.length := by omega
    rw [List.take_of_length_le (Nat.le_refl _)] at hall
    have hr' : r = 0 := by rw [hr, hall]; rfl
    repeat (first | (with_reducible first | refine zq1 fun _ => ?_ | refine zq2 fun _ => ?_ | refine zq3 ?_) | ((first | refine zq4 ?_ | refine zq5 fun _ _ => ?_ | refine zq6 ?_); simp [-getElem?_pos, z0, z1, z2, hlt]) | ((first | refine AWp.ret ?_ | refine AWp.skip ?_ | refine AWp.exit ?_); try simp only [thenP]) | (with_reducible refine zq7 ?_; simp only [blockP, thenP, reduceIte]) | with_reducible refine zq8 ?_)
    (first | refine RR.ret ?_ | refine RR.normal ?_); simp [hr']
set_option maxRecDepth 100000 in
set_option maxHeartbeats 4000000 in
theorem refIsEdge_c (e : HE) : ACall Try.prog 45 [edgD e] (bD (okE e)) := by
  obtain ⟨r, hr⟩ : ∃ r, r = okE e := ⟨_, rfl⟩
  rw [← hr]
  rw [okE_eq] at hr
  have bad : ¬ ((0 ≤ e.depth ∧ e.depth ≤ 100) ∧ 0 ≤ e.burr ∧ e.burr ≤ 6) → r = false := fun h => hr.trans (decide_eq_false h)
  by_cases h1 : 0 ≤ e.depth
  · by_cases h2 : e.depth ≤ 100
    · by_cases h3 : 0 ≤ e.burr
      · have hr' : r = decide (e.burr ≤ 6) := by rw [hr]; simp [h1, h2, h3]
        refine acallK tabOk Try.func45 rfl rfl (show 1 ≤ _ by decide) rfl fun _ => ?_; simp only [Try.ntmps45]
        repeat (first | (with_reducible first | refine zq1 fun _ => ?_ | refine zq2 fun _ => ?_ | refine zq3 ?_) | ((first | refine zq4 ?_ | refine zq5 fun _ _ => ?_ | refine zq6 ?_); simp [-getElem?_pos, z0, z1, z2, h1, h2, h3]) | ((first | refine AWp.ret ?_ | refine AWp.skip ?_ | refine AWp.exit ?_); try simp only [thenP]) | (with_reducible refine zq7 ?_; simp only [blockP, thenP, reduceIte]) | with_reducible refine zq8 ?_)
        (first | refine RR.ret ?_ | refine RR.normal ?_); simp [hr']
      · have hr' := bad (by omega)
        refine acallK tabOk Try.func45 rfl rfl (show 1 ≤ _ by decide) rfl fun _ => ?_; simp only [Try.ntmps45]
        repeat (first | (with_reducible first | refine zq1 fun _ => ?_ | refine zq2 fun _ => ?_ | refine zq3 ?_) | ((first | refine zq4 ?_ | refine zq5 fun _ _ => ?_ | refine zq6 ?_); simp [-getElem?_pos, z0, z1, z2, h1, h2, h3]) | ((first | refine AWp.ret ?_ | refine AWp.skip ?_ | refine AWp.exit ?_); try simp only [thenP]) | (with_reducible refine zq7 ?_; simp only [blockP, thenP, reduceIte]) | with_reducible refine zq8 ?_)
        (first | refine RR.ret ?_ | refine RR.normal ?_); simp [hr']
    · have hr' := bad (by omega)
      refine acallK tabOk Try.func45 rfl rfl (show 1 ≤ _ by decide) rfl fun _ => ?_; simp only [Try.ntmps45]
      repeat (first | (with_reducible first | refine zq1 fun _ => ?_ | refine zq2 fun _ => ?_ | refine zq3 ?_) | ((first | refine zq4 ?_ | refine zq5 fun _ _ => ?_ | refine zq6 ?_); simp [-getElem?_pos, z0, z1, z2, h1, h2]) | ((first | refine AWp.ret ?_ | refine AWp.skip ?_ | refine AWp.exit ?_); try simp only [thenP]) | (with_reducible refine zq7 ?_; simp only [blockP, thenP, reduceIte]) | with_reducible refine zq8 ?_)
      (first | refine RR.ret ?_ | refine RR.normal ?_); simp [hr']
  · have hr' := bad (by omega)
    refine acallK tabOk Try.func45 rfl rfl (show 1 ≤ _ by decide) rfl fun _ => ?_; simp only [Try.ntmps45]
    repeat (first | (with_reducible first | refine zq1 fun _ => ?_ | refine zq2 fun _ => ?_ | refine zq3 ?_) | ((first | refine zq4 ?_ | refine zq5 fun _ _ => ?_ | refine zq6 ?_); simp [-getElem?_pos, z0, z1, z2, h1]) | ((first | refine AWp.ret ?_ | refine AWp.skip ?_ | refine AWp.exit ?_); try simp only [thenP]) | (with_reducible refine zq7 ?_; simp only [blockP, thenP, reduceIte]) | with_reducible refine zq8 ?_)
    (first | refine RR.ret ?_ | refine RR.normal ?_); simp [hr']
set_option maxRecDepth 100000 in
set_option maxHeartbeats 4000000 in
theorem refStroke_c (s : HS) (e : HE) (gs : GoodS s) (ge : GoodE e) : ACall Try.prog 58 [stnD s, edgD e] (.tup [edgD (strR s e), bD (canS s e)]) := by
  obtain ⟨h1, h2, h3, h4⟩ := ge
  obtain ⟨g1, g2, g3, g4, g5, g6⟩ := gs
  have w1 : IntKind.i64.wrap (e.burr + s.burr) = e.burr + s.burr := wrap64_in (by omega)
  have w2 : IntKind.i64.wrap (e.depth - s.cut) = e.depth - s.cut := wrap64_in (by omega)
  have m1 : (if s.grit < e.depth - s.cut then e.depth - s.cut else s.grit) = max s.grit (e.depth - s.cut) := by split <;> omega
  have m2 : (if 0 < e.burr + s.burr then e.burr + s.burr else 0) = max 0 (e.burr + s.burr) := by split <;> omega
  by_cases g : 6 < e.burr + s.burr
  · have hc : canS s e = false := decide_eq_false (by omega)
    rw [strR, hc]
    refine acallK tabOk Try.func58 rfl rfl (show 2 ≤ _ by decide) rfl fun _ => ?_; simp only [Try.ntmps58]
    repeat (first | (with_reducible first | refine zq1 fun _ => ?_ | refine zq2 fun _ => ?_ | refine zq3 ?_) | ((first | refine zq4 ?_ | refine zq5 fun _ _ => ?_ | refine zq6 ?_); simp [-getElem?_pos, z0, z1, z2, w1, w2, g]) | ((first | refine AWp.ret ?_ | refine AWp.skip ?_ | refine AWp.exit ?_); try simp only [thenP]) | (with_reducible refine zq7 ?_; simp only [blockP, thenP, reduceIte]) | with_reducible refine zq8 ?_)
    (first | refine RR.ret ?_ | refine RR.normal ?_); simp []
  · have hc : canS s e = true := decide_eq_true (by omega)
    rw [strR, hc]
    refine acallK tabOk Try.func58 rfl rfl (show 2 ≤ _ by decide) rfl fun _ => ?_; simp only [Try.ntmps58]
    repeat (first | (with_reducible first | refine zq1 fun _ => ?_ | refine zq2 fun _ => ?_ | refine zq3 ?_) | ((first | refine zq4 ?_ | refine zq5 fun _ _ => ?_ | refine zq6 ?_); simp [-getElem?_pos, z0, z1, z2, w1, w2, g]) | ((first | refine AWp.ret ?_ | refine AWp.skip ?_ | refine AWp.exit ?_); try simp only [thenP]) | (with_reducible refine zq7 ?_; simp only [blockP, thenP, reduceIte]) | with_reducible refine zq8 ?_)
    (first | refine RR.ret ?_ | refine RR.normal ?_); simp [strE, m1, m2]
theorem chkErr_b {l : List HS} {es : List HE} (h : boxErr l ≠ 0) : chkErr l es = boxErr l := if_neg h
theorem chkErr_e {l : List HS} {e1 e2 : HE} (h : boxErr l = 0) : chkErr l [e1, e2] = if okE e1 && okE e2 then 0 else 2 := by
  rw [chkErr, if_pos h]
  simp
set_option maxRecDepth 100000 in
set_option maxHeartbeats 4000000 in
theorem refAsked_c (l : List HS) (e1 e2 : HE) : ACall Try.prog 52 [boxD l, edgD e1, edgD e2] (iD (chkErr l [e1, e2])) := by
  obtain ⟨r, hr⟩ : ∃ r, r = chkErr l [e1, e2] := ⟨_, rfl⟩
  rw [← hr]
  have cb := refCheckBox_c l
  have c1 := refIsEdge_c e1
  have c2 := refIsEdge_c e2
  by_cases h0 : boxErr l = 0
  · rw [chkErr_e h0] at hr
    rw [h0] at cb
    rcases g1 : okE e1 <;> rw [g1] at c1 hr
    · have hr' : r = 2 := hr
      refine acallK tabOk Try.func52 rfl rfl (show 3 ≤ _ by decide) rfl fun _ => ?_; simp only [Try.ntmps52]
      repeat (first | (with_reducible first | refine zq1 fun _ => ?_ | refine zq2 fun _ => ?_ | refine zq3 ?_) | ((first | refine zq4 ?_ | refine zq5 fun _ _ => ?_ | refine zq6 ?_); simp [-getElem?_pos, z0, z1, z2, ]) | ((first | refine AWp.ret ?_ | refine AWp.skip ?_ | refine AWp.exit ?_); try simp only [thenP]) | (with_reducible refine zq7 ?_; simp only [blockP, thenP, reduceIte]) | with_reducible refine zq8 ?_)
      (first | refine Exec0.call [] cb ?_ rfl ?_ ?_ | refine Exec.call [] cb ?_ rfl ?_ ?_); (focus simp [-getElem?_pos, ]); (focus simp [-getElem?_pos, z0, z1, z2, ]); simp [-getElem?_pos, z0, z1, z2, ]
      repeat (first | (with_reducible first | refine zq1 fun _ => ?_ | refine zq2 fun _ => ?_ | refine zq3 ?_) | ((first | refine zq4 ?_ | refine zq5 fun _ _ => ?_ | refine zq6 ?_); simp [-getElem?_pos, z0, z1, z2, ]) | ((first | refine AWp.ret ?_ | refine AWp.skip ?_ | refine AWp.exit ?_); try simp only [thenP]) | (with_reducible refine zq7 ?_; simp only [blockP, thenP, reduceIte]) | with_reducible refine zq8 ?_)
      (first | refine Exec0.call [] c1 ?_ rfl ?_ ?_ | refine Exec.call [] c1 ?_ rfl ?_ ?_); (focus simp [-getElem?_pos, ]); (focus simp [-getElem?_pos, z0, z1, z2, ]); simp [-getElem?_pos, z0, z1, z2, ]
      repeat (first | (with_reducible first | refine zq1 fun _ => ?_ | refine zq2 fun _ => ?_ | refine zq3 ?_) | ((first | refine zq4 ?_ | refine zq5 fun _ _ => ?_ | refine zq6 ?_); simp [-getElem?_pos, z0, z1, z2, ]) | ((first | refine AWp.ret ?_ | refine AWp.skip ?_ | refine AWp.exit ?_); try simp only [thenP]) | (with_reducible refine zq7 ?_; simp only [blockP, thenP, reduceIte]) | with_reducible refine zq8 ?_)
      (first | refine RR.ret ?_ | refine RR.normal ?_); simp [hr']
    · rcases g2 : okE e2 <;> rw [g2] at c2 hr
      · have hr' : r = 2 := hr
        refine acallK tabOk Try.func52 rfl rfl (show 3 ≤ _ by decide) rfl fun _ => ?_; simp only [Try.ntmps52]
        repeat (first | (with_reducible first | refine zq1 fun _ => ?_ | refine zq2 fun _ => ?_ | refine zq3 ?_) | ((first | refine zq4 ?_ | refine zq5 fun _ _ => ?_ | refine zq6 ?_); simp [-getElem?_pos, z0, z1, z2, ]) | ((first | refine AWp.ret ?_ | refine AWp.skip ?_ | refine AWp.exit ?_); try simp only [thenP]) | (with_reducible refine zq7 ?_; simp only [blockP, thenP, reduceIte]) | with_reducible refine zq8 ?_)
        (first | refine Exec0.call [] cb ?_ rfl ?_ ?_ | refine Exec.call [] cb ?_ rfl ?_ ?_); (focus simp [-getElem?_pos, ]); (focus simp [-getElem?_pos, z0, z1, z2, ]); simp [-getElem?_pos, z0, z1, z2, ]
        repeat (first | (with_reducible first | refine zq1 fun _ => ?_ | refine zq2 fun _ => ?_ | refine zq3 ?_) | ((first | refine zq4 ?_ | refine zq5 fun _ _ => ?_ | refine zq6 ?_); simp [-getElem?_pos, z0, z1, z2, ]) | ((first | refine AWp.ret ?_ | refine AWp.skip ?_ | refine AWp.exit ?_); try simp only [thenP]) | (with_reducible refine zq7 ?_; simp only [blockP, thenP, reduceIte]) | with_reducible refine zq8 ?_)
        (first | refine Exec0.call [] c1 ?_ rfl ?_ ?_ | refine Exec.call [] c1 ?_ rfl ?_ ?_); (focus simp [-getElem?_pos, ]); (focus simp [-getElem?_pos, z0, z1, z2, ]); simp [-getElem?_pos, z0, z1, z2, ]
        repeat (first | (with_reducible first | refine zq1 fun _ => ?_ | refine zq2 fun _ => ?_ | refine zq3 ?_) | ((first | refine zq4 ?_ | refine zq5 fun _ _ => ?_ | refine zq6 ?_); simp [-getElem?_pos, z0, z1, z2, ]) | ((first | refine AWp.ret ?_ | refine AWp.skip ?_ | refine AWp.exit ?_); try simp only [thenP]) | (with_reducible refine zq7 ?_; simp only [blockP, thenP, reduceIte]) | with_reducible refine zq8 ?_)
        (first | refine Exec0.call [] c2 ?_ rfl ?_ ?_ | refine Exec.call [] c2 ?_ rfl ?_ ?_); (focus simp [-getElem?_pos, ]); (focus simp [-getElem?_pos, z0, z1, z2, ]); simp [-getElem?_pos, z0, z1, z2, ]
        repeat (first | (with_reducible first | refine zq1 fun _ => ?_ | refine zq2 fun _ => ?_ | refine zq3 ?_) | ((first | refine zq4 ?_ | refine zq5 fun _ _ => ?_ | refine zq6 ?_); simp [-getElem?_pos, z0, z1, z2, ]) | ((first | refine AWp.ret ?_ | refine AWp.skip ?_ | refine AWp.exit ?_); try simp only [thenP]) | (with_reducible refine zq7 ?_; simp only [blockP, thenP, reduceIte]) | with_reducible refine zq8 ?_)
        (first | refine RR.ret ?_ | refine RR.normal ?_); simp [hr']
      · have hr' : r = 0 := hr
        refine acallK tabOk Try.func52 rfl rfl (show 3 ≤ _ by decide) rfl fun _ => ?_; simp only [Try.ntmps52]
        repeat (first | (with_reducible first | refine zq1 fun _ => ?_ | refine zq2 fun _ => ?_ | refine zq3 ?_) | ((first | refine zq4 ?_ | refine zq5 fun _ _ => ?_ | refine zq6 ?_); simp [-getElem?_pos, z0, z1, z2, ]) | ((first | refine AWp.ret ?_ | refine AWp.skip ?_ | refine AWp.exit ?_); try simp only [thenP]) | (with_reducible refine zq7 ?_; simp only [blockP, thenP, reduceIte]) | with_reducible refine zq8 ?_)
        (first | refine Exec0.call [] cb ?_ rfl ?_ ?_ | refine Exec.call [] cb ?_ rfl ?_ ?_); (focus simp [-getElem?_pos, ]); (focus simp [-getElem?_pos, z0, z1, z2, ]); simp [-getElem?_pos, z0, z1, z2, ]
        repeat (first | (with_reducible first | refine zq1 fun _ => ?_ | refine zq2 fun _ => ?_ | refine zq3 ?_) | ((first | refine zq4 ?_ | refine zq5 fun _ _ => ?_ | refine zq6 ?_); simp [-getElem?_pos, z0, z1, z2, ]) | ((first | refine AWp.ret ?_ | refine AWp.skip ?_ | refine AWp.exit ?_); try simp only [thenP]) | (with_reducible refine zq7 ?_; simp only [blockP, thenP, reduceIte]) | with_reducible refine zq8 ?_)
        (first | refine Exec0.call [] c1 ?_ rfl ?_ ?_ | refine Exec.call [] c1 ?_ rfl ?_ ?_); (focus simp [-getElem?_pos, ]); (focus simp [-getElem?_pos, z0, z1, z2, ]); simp [-getElem?_pos, z0, z1, z2, ]
        repeat (first | (with_reducible first | refine zq1 fun _ => ?_ | refine zq2 fun _ => ?_ | refine zq3 ?_) | ((first | refine zq4 ?_ | refine zq5 fun _ _ => ?_ | refine zq6 ?_); simp [-getElem?_pos, z0, z1, z2, ]) | ((first | refine AWp.ret ?_ | refine AWp.skip ?_ | refine AWp.exit ?_); try simp only [thenP]) | (with_reducible refine zq7 ?_; simp only [blockP, thenP, reduceIte]) | with_reducible refine zq8 ?_)
        (first | refine Exec0.call [] c2 ?_ rfl ?_ ?_ | refine Exec.call [] c2 ?_ rfl ?_ ?_); (focus simp [-getElem?_pos, ]); (focus simp [-getElem?_pos, z0, z1, z2, ]); simp [-getElem?_pos, z0, z1, z2, ]
        repeat (first | (with_reducible first | refine zq1 fun _ => ?_ | refine zq2 fun _ => ?_ | refine zq3 ?_) | ((first | refine zq4 ?_ | refine zq5 fun _ _ => ?_ | refine zq6 ?_); simp [-getElem?_pos, z0, z1, z2, ]) | ((first | refine AWp.ret ?_ | refine AWp.skip ?_ | refine AWp.exit ?_); try simp only [thenP]) | (with_reducible refine zq7 ?_; simp only [blockP, thenP, reduceIte]) | with_reducible refine zq8 ?_)
        (first | refine RR.ret ?_ | refine RR.normal ?_); simp [hr']
  · have hr' : r = boxErr l := hr.trans (chkErr_b h0)
    rw [hr']
    generalize boxErr l = b at *
    refine acallK tabOk Try.func52 rfl rfl (show 3 ≤ _ by decide) rfl fun _ => ?_; simp only [Try.ntmps52]
    repeat (first | (with_reducible first | refine zq1 fun _ => ?_ | refine zq2 fun _ => ?_ | refine zq3 ?_) | ((first | refine zq4 ?_ | refine zq5 fun _ _ => ?_ | refine zq6 ?_); simp [-getElem?_pos, z0, z1, z2, ]) | ((first | refine AWp.ret ?_ | refine AWp.skip ?_ | refine AWp.exit ?_); try simp only [thenP]) | (with_reducible refine zq7 ?_; simp only [blockP, thenP, reduceIte]) | with_reducible refine zq8 ?_)
    (first | refine Exec0.call [] cb ?_ rfl ?_ ?_ | refine Exec.call [] cb ?_ rfl ?_ ?_); (focus simp [-getElem?_pos, h0]); (focus simp [-getElem?_pos, z0, z1, z2, h0]); simp [-getElem?_pos, z0, z1, z2, h0]
    repeat (first | (with_reducible first | refine zq1 fun _ => ?_ | refine zq2 fun _ => ?_ | refine zq3 ?_) | ((first | refine zq4 ?_ | refine zq5 fun _ _ => ?_ | refine zq6 ?_); simp [-getElem?_pos, z0, z1, z2, h0]) | ((first | refine AWp.ret ?_ | refine AWp.skip ?_ | refine AWp.exit ?_); try simp only [thenP]) | (with_reducible refine zq7 ?_; simp only [blockP, thenP, reduceIte]) | with_reducible refine zq8 ?_)
    (first | refine Exec0.call [] cb ?_ rfl ?_ ?_ | refine Exec.call [] cb ?_ rfl ?_ ?_); (focus simp [-getElem?_pos, ]); (focus simp [-getElem?_pos, z0, z1, z2, ]); simp [-getElem?_pos, z0, z1, z2, ]
    repeat (first | (with_reducible first | refine zq1 fun _ => ?_ | refine zq2 fun _ => ?_ | refine zq3 ?_) | ((first | refine zq4 ?_ | refine zq5 fun _ _ => ?_ | refine zq6 ?_); simp [-getElem?_pos, z0, z1, z2, ]) | ((first | refine AWp.ret ?_ | refine AWp.skip ?_ | refine AWp.exit ?_); try simp only [thenP]) | (with_reducible refine zq7 ?_; simp only [blockP, thenP, reduceIte]) | with_reducible refine zq8 ?_)
    (first | refine RR.ret ?_ | refine RR.normal ?_); simp []
end Go.Proofs.Ytgiomfamlbmpcaa.Eng

namespace Go.Proofs.Ytgiomfamlbmpcaa
open Go.ChangeShapes Go.WideShapes Go.ChangeAt Go.RowKit
theorem post_later {H : Type} {enc : TypeId × Value → H} {P : Program} {f : Func} {s : ChangeSpec} {apart fresh handsOn again : Bool} {W W' : World} {args : Array Value} {v : Value} {ds gs : List (DataW H)} {before pa pv : List MemPlace}
    (hW : DataW.Whole enc P f.params.toList s.vars apart W args.toList ds gs before) (hsplit : before = pa ++ pv)
    (hr : ∀ (b : Nat) (sp : Nat → Bool) (hd : Bool), DataW.TrodAll enc P W' b sp hd f.resultTypes.toList (v.resultList f.resultTypes.size) (s.fn H (ds ++ gs)).results [])
    (ha : ∀ sp : Nat → Bool, (∀ p ∈ before, sp p.block = true) → DataW.TrodAll enc P W' 0 sp true f.params.toList args.toList (s.fn H (ds ++ gs)).args pa)
    (hv : ∀ sp : Nat → Bool, (∀ p ∈ before, sp p.block = true) → DataW.TrodVars enc P W' sp s.vars (s.fn H (ds ++ gs)).vars pv)
    (hk : ∀ (j : Nat) (t : TypeId) (r : Value), f.resultTypes[j]? = some t → (v.resultList f.resultTypes.size)[j]? = some r → Value.okWide P W' .any 0 t r)
    (hb : Below W.heap.size W W') : s.post enc P f apart fresh handsOn again W args v W' := by
  have inside : ∀ p, p ∈ before → p.block < W.heap.size := fun p hp => hW.lt p hp
  have keep : ∀ p ∈ before, (decide ((p : MemPlace).block < W.heap.size)) = true := fun p hp => decide_eq_true (inside p hp)
  refine ⟨ds, gs, before, [], pa, pv, hW, hr _ _ _, ha (fun b => decide (b < W.heap.size)) keep, hv (fun b => decide (b < W.heap.size)) keep, ?_, ?_⟩
  · refine World.keptBut_mono (fun p hp => ⟨hp, ?_⟩) (hb.frame (· ∈ before))
    right
    rw [hsplit, List.mem_append] at hp
    exact hp
  · intro _
    obtain ⟨_, _, _, _, _, hz, hn⟩ := hW
    have e : [] ++ pa ++ pv = before := by rw [hsplit, List.nil_append]
    refine ⟨hk, _, _, [] ++ pa ++ pv, ⟨[] ++ pa, pv, trodAll_append (ha _ fun _ _ => rfl) (hr _ _ _), hv _ fun _ _ => rfl, rfl, fun b off hp => ?_, fun h => ?_⟩, fun p hp _ => ?_⟩
    · rw [e] at hp
      rw [hb.frozen (inside _ hp)]
      exact hz b off hp
    · have := hn h
      rw [← e] at this
      simpa using this
    · rw [e] at hp
      simpa using hp
end Go.Proofs.Ytgiomfamlbmpcaa

namespace Go.Proofs.Ytgiomfamlbmpcaa.Eng
open Go.ChangeShapes Go.WideShapes Go.ChangeAt Go.RowKit Go.Deep
inductive Sh where
  | int (k : IntKind)
  | bool
  | nil
  | cons (s r : Sh)
  | sl (s : Sh)
  | arr (n : Nat) (s : Sh)
def Sh.size : Sh → Nat
  | .int _ => 1
  | .bool => 1
  | .nil => 0
  | .cons s r => s.size + r.size
  | .sl _ => 1
  | .arr n s => n * s.size
def Sh.Row : Sh → List Dat → Prop
  | .int k, r => ∃ n, r = [.val (.int k n)] ∧ (Lit.int k n).wf = true
  | .bool, r => ∃ b, r = [.val (.bool b)]
  | .nil, r => r = []
  | .cons s t, r => ∃ a b, r = a ++ b ∧ s.Row a ∧ t.Row b
  | .sl s, r => ∃ rows : List (List Dat), r = [.list rows] ∧ ∀ x ∈ rows, s.Row x
  | .arr n s, r => ∃ rows : List (List Dat), rows.length = n ∧ r = rows.flatten ∧ ∀ x ∈ rows, s.Row x
theorem Sh.Row.len : ∀ {s : Sh} {r : List Dat}, s.Row r → r.length = s.size
  | .int k, _, ⟨n, h, _⟩ => by rw [h]; rfl
  | .bool, _, ⟨b, h⟩ => by rw [h]; rfl
  | .nil, _, h => by rw [show _ = [] from h]; rfl
  | .cons s t, _, ⟨a, b, h, ha, hb⟩ => by rw [h, List.length_append, Sh.Row.len ha, Sh.Row.len hb]; rfl
  | .sl s, _, ⟨rows, h, _⟩ => by rw [h]; rfl
  | .arr n s, _, ⟨rows, h1, h2, h3⟩ => by
    rw [h2, List.length_flatten]
    have : ∀ l : List (List Dat), (∀ x ∈ l, s.Row x) → (l.map List.length).sum = l.length * s.size := by
      intro l
      induction l with
      | nil => intro _; simp
      | cons x l ih =>
        intro h
        rw [List.map_cons, List.sum_cons, ih fun y hy => h y (List.mem_cons_of_mem _ hy), Sh.Row.len (h x List.mem_cons_self), List.length_cons, Nat.add_mul, Nat.one_mul, Nat.add_comm]
    rw [this rows h3, h1]
    rfl
theorem Sh.Row.one : ∀ {s : Sh} {r : List Dat}, s.Row r → ∀ c ∈ r, c.one = true
  | .int k, _, ⟨n, h, _⟩, c, hc => by subst h; simp at hc; subst hc; rfl
  | .bool, _, ⟨b, h⟩, c, hc => by subst h; simp at hc; subst hc; rfl
  | .nil, _, h, c, hc => by rw [show _ = [] from h] at hc; simp at hc
  | .cons s t, _, ⟨a, b, h, ha, hb⟩, c, hc => by
    subst h
    rcases List.mem_append.1 hc with hc | hc
    · exact Sh.Row.one ha c hc
    · exact Sh.Row.one hb c hc
  | .sl s, _, ⟨rows, h, _⟩, c, hc => by subst h; simp at hc; subst hc; rfl
  | .arr n s, _, ⟨rows, h1, h2, h3⟩, c, hc => by
    subst h2
    obtain ⟨x, hx, hcx⟩ := List.mem_flatten.1 hc
    exact Sh.Row.one (h3 x hx) c hcx
def Sh.flds (P : Program) (ok : Sh → TypeId → Bool) : Sh → List Field → Nat → Bool
  | .nil, [], _ => true
  | .cons s r, f :: fs, o => f.offset == o && P.cellsOf f.type == s.size && ok s f.type && r.flds P ok fs (o + s.size)
  | _, _, _ => false
def Sh.okF (P : Program) : Nat → Sh → TypeId → Bool
  | 0, _, _ => false
  | n + 1, s, t => match P.underlying t with
    | some (.int k) => match s with
      | .int k' => decide (k' = k)
      | _ => false
    | some .bool => match s with
      | .bool => true
      | _ => false
    | some (.struct fs) => P.cellsOf t == s.size && s.flds P (Sh.okF P n) fs.toList 0
    | some (.slice e) => match s with
      | .sl s' => Nat.ble 1 s'.size && P.cellsOf e == s'.size && Sh.okF P n s' e
      | _ => false
    | some (.array m e) => match s with
      | .arr m' s' => m == m' && P.cellsOf e == s'.size && P.cellsOf t == m * s'.size && Sh.okF P n s' e
      | _ => false
    | _ => false
section
variable {H : Type} {enc : TypeId × Value → H} {P : Program} {w : World}
def Read (w : World) (s : Sh) (cs : List Value) : Prop := cs.length = s.size ∧ ∃ r, s.Row r ∧ ∀ (j : Nat) c u, r[j]? = some c → cs[j]? = some u → RepD (· < w.heap.size) w c u
def Opens (enc : TypeId × Value → H) (P : Program) (w : World) (s : Sh) (t : TypeId) : Prop := ∀ fuel cs x, DataW.trod enc P w 0 (fun _ => true) true fuel t cs = some x → Read w s cs
theorem read_list {α : Type} {R : Nat → α → Prop} : ∀ (n : Nat), (∀ i, i < n → ∃ x, R i x) → ∃ l : List α, l.length = n ∧ ∀ i x, l[i]? = some x → R i x
  | 0, _ => ⟨[], rfl, fun i x h => by simp at h⟩
  | n + 1, h => by
    obtain ⟨l, hl, hx⟩ := read_list n fun i hi => h i (by omega)
    obtain ⟨y, hy⟩ := h n (by omega)
    refine ⟨l ++ [y], by simp [hl], fun i x hi => ?_⟩
    rcases Nat.lt_or_ge i n with h1 | h1
    · rw [List.getElem?_append_left (by omega)] at hi
      exact hx i x hi
    · rw [List.getElem?_append_right (by omega)] at hi
      have : i = n := by
        have := (List.getElem?_eq_some_iff.1 hi).1
        simp at this
        omega
      subst this
      simp [hl] at hi
      subst hi
      exact hy
theorem opens_slice {s : Sh} {t e : TypeId} (ht : P.underlying t = some (.slice e)) (h0 : 0 < s.size) (hc : P.cellsOf e = s.size) (he : Opens enc P w s e) : Opens enc P w (.sl s) t := by
  intro fuel cs x h
  rcases open_slice ht h with ⟨h1, _⟩ | ⟨a, len, cap, m, n, D, Pl, hcs, hb, hl, hmx, hm, hx, hel⟩
  · subst h1
    refine ⟨rfl, [.list []], ⟨[], rfl, by simp⟩, fun j c u hj hu => ?_⟩
    match j with
    | 0 =>
      simp at hj hu
      subst hj; subst hu
      exact .list [] none 0 (fun _ _ => default) (by simp) (by decide) (by simp) (by simp) (by simp)
    | j + 1 => simp at hj
  · have hmc : m = cap := by simpa using hm
    obtain ⟨b, off, spot⟩ := a
    have cell : ∀ i, i < m → ∃ cs', cs'.length = s.size ∧ (∀ j u, cs'[j]? = some u → w.cell? (Addr.add ⟨b, off, spot⟩ (i * s.size + j)) = some u) ∧ Read w s cs' := by
      intro i hi
      obtain ⟨cs', h1, h2⟩ := hel i hi
      rw [hc] at h1
      obtain ⟨_, hlen, hat⟩ := World.cells?_some h1
      refine ⟨cs', hlen, fun j u hj => ?_, he _ _ _ h2⟩
      have hjl : j < s.size := by rw [← hlen]; exact (List.getElem?_eq_some_iff.1 hj).1
      rw [← Go.Deep.add_add, hat j hjl, hj]
    subst hcs
    refine ⟨rfl, ?_⟩
    rcases Nat.eq_zero_or_pos len with hm0 | hm0
    · subst hm0
      refine ⟨[.list []], ⟨[], rfl, by simp⟩, fun j c u hj hu => ?_⟩
      match j with
      | 0 =>
        simp at hj hu
        subst hj; subst hu
        exact .list [] _ cap (fun _ _ => default) (by simp) hmx (by simp) (by simp) (by simp)
      | j + 1 => simp at hj
    · have hsp : spot = none := by
        obtain ⟨cs', h1, h2, _⟩ := cell 0 (by omega)
        have h3 : cs'[0]? = some (cs'[0]'(by omega)) := List.getElem?_eq_getElem (by omega)
        have := World.cell?_spot (h2 0 _ h3)
        simpa [Addr.add] using this
      subst hsp
      have hb2 : b < w.heap.size := by
        obtain ⟨cs', h1, h2, _⟩ := cell 0 (by omega)
        have h3 : cs'[0]? = some (cs'[0]'(by omega)) := List.getElem?_eq_getElem (by omega)
        have h4 := World.block_lt_of_cell? w _ (h2 0 _ h3)
        simpa [Addr.add] using h4
      obtain ⟨rows, hrl, hrx⟩ := read_list (R := fun i (r : List Dat) => s.Row r ∧ ∀ (j : Nat) c, r[j]? = some c → ∃ u, w.cell? ⟨b, off + i * s.size + j, none⟩ = some u ∧ RepD (· < w.heap.size) w c u) len fun i hi => by
        obtain ⟨cs', h1, h2, h3, r, h4, h5⟩ := cell i (by omega)
        refine ⟨r, h4, fun j c hj => ?_⟩
        have hjl : j < s.size := by rw [← h4.len]; exact (List.getElem?_eq_some_iff.1 hj).1
        have hu : cs'[j]? = some (cs'[j]'(by omega)) := List.getElem?_eq_getElem (by omega)
        refine ⟨_, ?_, h5 j c _ hj hu⟩
        have := h2 j _ hu
        by_cases e0 : i * s.size + j = 0
        · rw [e0] at this
          rw [show off + i * s.size + j = off by omega]
          simpa [Addr.add] using this
        · simp only [Addr.add, if_neg e0] at this
          rwa [Nat.add_assoc]
      have hmem : ∀ r ∈ rows, s.Row r := fun r hr => by
        obtain ⟨i, hi⟩ := List.getElem?_of_mem hr
        exact (hrx i r hi).1
      refine ⟨[.list rows], ⟨rows, rfl, hmem⟩, fun j c u hj hu => ?_⟩
      match j with
      | 0 =>
        simp at hj hu
        subst hj; subst hu
        rw [← hrl]
        refine .list rows _ cap (fun i j => (w.cell? ⟨b, off + i * s.size + j, none⟩).getD default) (by omega) hmx (fun r hr => (hmem r hr).one) (fun _ => ⟨b, off, s.size, rfl, hb2, fun r hr => (hmem r hr).len, fun i j hi hj => ?_⟩) fun i j r c hr hc => ?_
        · have hri := hrx i _ (List.getElem?_eq_getElem hi)
          obtain ⟨u, hu, _⟩ := hri.2 j _ (List.getElem?_eq_getElem (by rw [hri.1.len]; exact hj))
          rw [hu]; rfl
        · obtain ⟨u, hu, hru⟩ := (hrx i r hr).2 j c hc
          rw [hu]; exact hru
      | j + 1 => simp at hj
theorem Read.app {s r : Sh} {a b : List Value} (ha : Read w s a) (hb : Read w r b) : Read w (.cons s r) (a ++ b) := by
  obtain ⟨h1, x, h2, h3⟩ := ha
  obtain ⟨k1, y, k2, k3⟩ := hb
  refine ⟨by rw [List.length_append, h1, k1]; rfl, x ++ y, ⟨x, y, rfl, h2, k2⟩, fun j c u hc hu => ?_⟩
  have hx := h2.len
  by_cases hj : j < x.length
  · rw [List.getElem?_append_left hj] at hc
    rw [List.getElem?_append_left (by omega)] at hu
    exact h3 j c u hc hu
  · rw [List.getElem?_append_right (by omega)] at hc
    rw [List.getElem?_append_right (by omega)] at hu
    rw [hx, ← h1] at hc
    exact k3 _ c u hc hu
theorem read_flds {ok : Sh → TypeId → Bool} {m : Nat} (hok : ∀ s t, ok s t = true → Opens enc P w s t) {cs : List Value} : ∀ (s : Sh) (fs : List Field) (o : Nat), s.flds P ok fs o = true → o + s.size = cs.length →
    (∀ f ∈ fs, ∃ y, DataW.trod enc P w 0 (fun _ => true) true m f.type ((cs.drop f.offset).take (P.cellsOf f.type)) = some y) → Read w s (cs.drop o)
  | .nil, [], o, _, hl, _ => by
    rw [List.drop_eq_nil_of_le (by simp only [Sh.size] at hl; omega)]
    exact ⟨rfl, [], rfl, by simp⟩
  | .cons s r, f :: fs, o, h, hl, hf => by
    simp only [Sh.flds, Bool.and_eq_true, beq_iff_eq] at h
    obtain ⟨⟨⟨h1, h2⟩, h3⟩, h4⟩ := h
    obtain ⟨y, hy⟩ := hf f List.mem_cons_self
    rw [h1, h2] at hy
    have k1 := hok s f.type h3 _ _ _ hy
    have k2 := read_flds hok r fs (o + s.size) h4 (by simp only [Sh.size] at hl; omega) fun g hg => hf g (List.mem_cons_of_mem _ hg)
    have := k1.app k2
    rwa [← List.drop_drop, List.take_append_drop] at this
  | .nil, _ :: _, _, h, _, _ => by simp [Sh.flds] at h
  | .cons _ _, [], _, h, _, _ => by simp [Sh.flds] at h
  | .int _, _, _, h, _, _ => by simp [Sh.flds] at h
  | .bool, _, _, h, _, _ => by simp [Sh.flds] at h
  | .sl _, _, _, h, _, _ => by simp [Sh.flds] at h
  | .arr _ _, _, _, h, _, _ => by simp [Sh.flds] at h
theorem read_arr {s : Sh} : ∀ (n : Nat) (cs : List Value), cs.length = n * s.size → (∀ i, i < n → Read w s ((cs.drop (i * s.size)).take s.size)) → Read w (.arr n s) cs
  | 0, cs, hl, _ => by
    have : cs = [] := List.eq_nil_of_length_eq_zero (by rw [hl, Nat.zero_mul])
    subst this
    exact ⟨by simp [Sh.size], [], ⟨[], rfl, rfl, by simp⟩, by simp⟩
  | n + 1, cs, hl, h => by
    have h0 := h 0 (by omega)
    rw [Nat.zero_mul, List.drop_zero] at h0
    have h1 := read_arr (s := s) n (cs.drop s.size) (by rw [List.length_drop, hl, Nat.add_mul]; omega) fun i hi => by
      have := h (i + 1) (by omega)
      rw [List.drop_drop]
      rwa [Nat.add_mul, Nat.one_mul, Nat.add_comm] at this
    obtain ⟨a1, a, a2, a3⟩ := h0
    obtain ⟨b1, b, ⟨rows, b2, b3, b4⟩, b5⟩ := h1
    refine ⟨hl, a ++ b, ⟨a :: rows, by simp [b2], by simp [b3], fun x hx => ?_⟩, fun j c u hc hu => ?_⟩
    · rcases List.mem_cons.1 hx with rfl | hx
      · exact a2
      · exact b4 x hx
    · have hx := a2.len
      rw [← List.take_append_drop s.size cs] at hu
      by_cases hj : j < a.length
      · rw [List.getElem?_append_left hj] at hc
        rw [List.getElem?_append_left (by omega)] at hu
        exact a3 j c u hc hu
      · rw [List.getElem?_append_right (by omega)] at hc
        rw [List.getElem?_append_right (by omega)] at hu
        rw [hx, ← a1] at hc
        exact b5 _ c u hc hu
theorem okF_opens : ∀ (n : Nat) (s : Sh) (t : TypeId), s.okF P n t = true → Opens enc P w s t
  | 0, s, t, h => by simp [Sh.okF] at h
  | n + 1, s, t, h => by
    unfold Sh.okF at h
    split at h
    · rename_i k hu
      split at h
      · rename_i k'
        obtain rfl := of_decide_eq_true h
        intro fuel cs x hx
        obtain ⟨m, rfl, _, hw⟩ := DataW.trod_int hu hx
        refine ⟨rfl, _, ⟨m, rfl, hw⟩, fun j c u hc hu => ?_⟩
        match j with
        | 0 => simp at hc hu; subst hc; subst hu; exact .val _ rfl
        | j + 1 => simp at hc
      · cases h
    · rename_i hu
      split at h
      · intro fuel cs x hx
        obtain ⟨m, rfl, _⟩ := DataW.trod_bool hu hx
        refine ⟨rfl, _, ⟨m, rfl⟩, fun j c u hc hu => ?_⟩
        match j with
        | 0 => simp at hc hu; subst hc; subst hu; exact .val _ rfl
        | j + 1 => simp at hc
      · cases h
    · rename_i fs hu
      simp only [Bool.and_eq_true, beq_iff_eq] at h
      intro fuel cs x hx
      obtain ⟨xs, m, _, _, hl, hxl, hf⟩ := DataW.trod_struct hu hx
      have := read_flds (okF_opens n) s fs.toList 0 h.2 (by rw [hl, h.1]; omega) (m := m) (cs := cs) fun f hf' => by
        obtain ⟨i, hi⟩ := List.getElem?_of_mem hf'
        have hi2 : fs[i]? = some f := by simpa using hi
        have hlt : i < fs.size := (Array.getElem?_eq_some_iff.1 hi2).1
        exact ⟨_, (hf i f hi2).trans (List.getElem?_eq_getElem (by omega))⟩
      rwa [List.drop_zero] at this
    · rename_i e hu
      split at h
      · rename_i s'
        simp only [Bool.and_eq_true, beq_iff_eq] at h
        exact opens_slice hu (Nat.le_of_ble_eq_true h.1.1) h.1.2 (okF_opens n s' e h.2)
      · cases h
    · rename_i m e hu
      split at h
      · rename_i m' s'
        simp only [Bool.and_eq_true, beq_iff_eq] at h
        obtain ⟨⟨⟨rfl, h2⟩, h3⟩, h4⟩ := h
        intro fuel cs x hx
        obtain ⟨xs, k, _, _, hl, hxl, hf⟩ := DataW.trod_array hu hx
        refine read_arr m cs (by rw [hl, h3]) fun i hi => ?_
        have := hf i hi
        rw [List.getElem?_eq_getElem (by omega), h2] at this
        exact okF_opens n s' e h4 _ _ _ this
      · cases h
    · cases h
def Sh.D : Sh → Dat → Prop
  | .int k, d => ∃ n, d = .val (.int k n) ∧ (Lit.int k n).wf = true
  | .bool, d => ∃ b, d = .val (.bool b)
  | .sl s, d => ∃ rows : List (List Dat), d = .list rows ∧ ∀ x ∈ rows, s.Row x
  | s, d => ∃ r, d = .agg r ∧ s.Row r
set_option maxRecDepth 100000 in
theorem open_sh (s : Sh) {n : Nat} {base : Nat} {t : TypeId} {v : Value} {d : DataW H} {p : List MemPlace} (hs : s.okF P n t = true) (hv : Value.okWide P w .any base t v) (h : DataW.Trod enc P w 0 (fun _ => true) true t v d p) :
    ∃ D, s.D D ∧ RepD (· < w.heap.size) w D v := by
  obtain ⟨fuel, hf⟩ := h
  have key := okF_opens (enc := enc) (w := w) n s t hs _ _ _ hf
  cases n with
  | zero => simp [Sh.okF] at hs
  | succ n =>
    unfold Sh.okF at hs
    have agg : ∀ cs, v = .agg cs → (s.D = fun d => ∃ r, d = .agg r ∧ s.Row r) → ∃ D, s.D D ∧ RepD (· < w.heap.size) w D v := fun ⟨cs⟩ e hD => by
      subst e
      obtain ⟨k1, r, k2, k3⟩ := key
      refine ⟨.agg r, by rw [hD]; exact ⟨r, rfl, k2⟩, .agg r _ ?_ k2.one fun i c u hc hu => k3 i c u hc (show cs[i]? = some u by simpa using hu)⟩
      rw [k2.len, ← k1]
      rfl
    split at hs
    · rename_i k hu
      split at hs
      · obtain ⟨m, rfl⟩ := okWide_int hu hv
        obtain ⟨k1, r, ⟨m', rfl, hw⟩, k3⟩ := key
        have := k3 0 _ _ rfl rfl
        exact ⟨_, ⟨m', rfl, hw⟩, this⟩
      · cases hs
    · rename_i hu
      split at hs
      · obtain ⟨m, rfl⟩ := okWide_bool hu hv
        obtain ⟨k1, r, ⟨m', rfl⟩, k3⟩ := key
        exact ⟨_, ⟨m', rfl⟩, k3 0 _ _ rfl rfl⟩
      · cases hs
    · rename_i fs hu
      obtain ⟨cs, e, _⟩ := okWide_struct hu hv
      simp only [Bool.and_eq_true] at hs
      refine agg cs e ?_
      cases s with
      | nil => rfl
      | cons => rfl
      | _ => simp [Sh.flds] at hs
    · rename_i e hu
      split at hs
      · obtain ⟨a, l, c, rfl⟩ := okWide_slice hu hv
        obtain ⟨k1, r, ⟨rows, rfl, hw⟩, k3⟩ := key
        exact ⟨_, ⟨rows, rfl, hw⟩, k3 0 _ _ rfl rfl⟩
      · cases hs
    · rename_i m e hu
      simp only [Value.okWide, hu] at hv
      obtain ⟨cs, e1, _⟩ := hv
      split at hs
      · exact agg cs e1 rfl
      · cases hs
    · cases hs
end
theorem args_later' {H : Type} {enc : TypeId × Value → H} {P : Program} {W W' : World} {T : TypeId → Prop} (K : Kids P T) (hz : ∀ t e, T t → P.underlying t = some (.slice e) → 0 < P.cellsOf e) {ts : List TypeId} {vs : List Value} {ds : List (DataW H)} {ps : List MemPlace}
    (hT : ∀ t ∈ ts, T t) (h : DataW.TrodAll enc P W 0 (fun _ => true) true ts vs ds ps) (hb : Below W.heap.size W W') {sp : Nat → Bool} (hs : ∀ p ∈ ps, sp p.block = true) : DataW.TrodAll enc P W' 0 sp true ts vs ds ps := by
  have carry : ∀ {ts : List TypeId} {vs : List Value} {ds : List (DataW H)} {ps : List MemPlace}, DataW.TrodAll enc P W 0 (fun _ => true) true ts vs ds ps → DataW.TrodAll enc P W' 0 (fun _ => true) true ts vs ds ps := by
    intro ts
    induction ts with
    | nil =>
      intro vs ds ps h
      obtain ⟨rfl, rfl, rfl⟩ := trodAll_nil h
      rfl
    | cons t ts ih =>
      intro vs ds ps h
      obtain ⟨v, vs1, d, ds1, a, b, rfl, rfl, rfl, ⟨n, h1⟩, h2⟩ := trodAll_cons h
      refine ⟨a, b, ⟨n, DataW.trod_carry n _ _ _ h1 fun p hp => ?_⟩, ih h2, rfl⟩
      have hlt := DataW.trod_lt n _ _ _ h1 p hp
      cases p with
      | cell bl off => exact hb.cell (p := ⟨bl, off, none⟩) hlt
      | map bl => exact hb.block bl hlt
  exact (carry h).respare K hz hT hs
theorem rows_of {α : Type} {f : α → List Dat} : ∀ {rows : List (List Dat)}, (∀ x ∈ rows, ∃ a, x = f a) → ∃ l : List α, rows = l.map f
  | [], _ => ⟨[], rfl⟩
  | x :: rows, h => by
    obtain ⟨a, rfl⟩ := h x List.mem_cons_self
    obtain ⟨l, rfl⟩ := rows_of fun y hy => h y (List.mem_cons_of_mem _ hy)
    exact ⟨a :: l, rfl⟩
theorem ints_in {d : Dat} (h : (Sh.sl (.int .i64)).D d) : ∃ l : List Int, d = .list (l.map fun x => [.val (.int .i64 x)]) := by
  obtain ⟨rows, rfl, h⟩ := h
  obtain ⟨l, rfl⟩ := rows_of (f := fun x : Int => [.val (.int .i64 x)]) fun x hx => by
    obtain ⟨n, rfl, _⟩ := h x hx
    exact ⟨n, rfl⟩
  exact ⟨l, rfl⟩
theorem law_true {P : Program} {f : FuncId} {ds : List Dat} (h : ACall P f ds (.val (.bool true))) {W : World} {vs : Array Value} (hs : vs.size = ds.length) (hr : ∀ (i : Nat) d v, ds[i]? = some d → vs[i]? = some v → RepD (· < W.heap.size) W d v) :
    Calls P f vs W fun e w' => e = .returned (.bool true) ∧ Below W.heap.size W w' := by
  refine (h.calls (· < W.heap.size) W vs (fun _ h => h) hs hr).mono ?_
  rintro e w' ⟨v, rfl, hb, hv⟩
  cases hv
  exact ⟨rfl, hb⟩
theorem reps_nil {W : World} : ∀ (i : Nat) d v, ([] : List Dat)[i]? = some d → (#[] : Array Value)[i]? = some v → RepD (· < W.heap.size) W d v := fun i d v h => by simp at h
theorem reps_cons {W : World} {D : Dat} {ds : List Dat} {v : Value} {vs : List Value} (h : RepD (· < W.heap.size) W D v) (hr : ∀ (i : Nat) d v, ds[i]? = some d → (vs.toArray)[i]? = some v → RepD (· < W.heap.size) W d v) :
    ∀ (i : Nat) d u, (D :: ds)[i]? = some d → ((v :: vs).toArray)[i]? = some u → RepD (· < W.heap.size) W d u := fun i d u hd hu => by
  match i with
  | 0 => simp at hd hu; subst hd; subst hu; exact h
  | i + 1 => simp at hd hu; exact hr i d u hd (by simpa using hu)
end Go.Proofs.Ytgiomfamlbmpcaa.Eng

namespace Go.Proofs.Ytgiomfamlbmpcaa.Eng
open Go.RowKit
def af0E (l : List HS) (e : HE) (t : List Int) : Int := if 800 < t.length then 6 else if fromK 0 (l.length - 1) t = false then 3 else match runE l t e with
    | some _ => 0
    | none => 16
def af0R (l : List HS) (e : HE) (t : List Int) : HE := if 800 < t.length then ⟨0, 0⟩ else if fromK 0 (l.length - 1) t = false then ⟨0, 0⟩ else (runE l t e).getD ⟨0, 0⟩
set_option maxRecDepth 100000 in
set_option maxHeartbeats 8000000 in
theorem refAfterError_c (l : List HS) (hb : BoxOk l) (e : HE) (ge : GoodE e) (t : List Int) (ht : t.length ≤ 1000000) : ACall Try.prog 53 [boxD l, edgD e, intL t] (.tup [edgD (af0R l e t), iD (af0E l e t)]) := by
  obtain ⟨r, hr⟩ : ∃ r, r = af0E l e t := ⟨_, rfl⟩
  obtain ⟨x, hx⟩ : ∃ x, x = af0R l e t := ⟨_, rfl⟩
  rw [← hr, ← hx]
  unfold af0E at hr
  unfold af0R at hx
  by_cases h1 : 800 < t.length
  · have h1' : (800 : Int) < t.length := by omega
    rw [if_pos h1] at hr hx
    subst hx
    refine acallK tabOk Try.func53 rfl rfl (show 3 ≤ _ by decide) rfl fun _ => ?_; simp only [Try.ntmps53]
    repeat (first | (with_reducible first | refine zq1 fun _ => ?_ | refine zq2 fun _ => ?_ | refine zq3 ?_) | ((first | refine zq4 ?_ | refine zq5 fun _ _ => ?_ | refine zq6 ?_); simp [-getElem?_pos, z0, z1, z2, h1, h1']) | ((first | refine AWp.ret ?_ | refine AWp.skip ?_ | refine AWp.exit ?_); try simp only [thenP]) | (with_reducible refine zq7 ?_; simp only [blockP, thenP, reduceIte]) | with_reducible refine zq8 ?_)
    (first | refine RR.ret ?_ | refine RR.normal ?_); simp [hr]
  have h1' : ¬ (800 : Int) < t.length := by omega
  rw [if_neg h1] at hr hx
  have n1 := hb.n1
  have n2 := hb.n2
  refine acallK tabOk Try.func53 rfl rfl (show 3 ≤ _ by decide) rfl fun _ => ?_; simp only [Try.ntmps53]
  repeat (first | (with_reducible first | refine zq1 fun _ => ?_ | refine zq2 fun _ => ?_ | refine zq3 ?_) | ((first | refine zq4 ?_ | refine zq5 fun _ _ => ?_ | refine zq6 ?_); simp [-getElem?_pos, z0, z1, z2, h1, h1']) | ((first | refine AWp.ret ?_ | refine AWp.skip ?_ | refine AWp.exit ?_); try simp only [thenP]) | (with_reducible refine zq7 ?_; simp only [blockP, thenP, reduceIte]) | with_reducible refine zq8 ?_)
  refine AWp.loopK (ι := { k : Nat // k ≤ t.length ∧ fromK 0 ((l.length : Int) - 1) (t.take k) = true }) (n := 2) (fun k => [(0, .d (boxD l)), (2, .d (intL t)), (4, .ptr 0 0 0), (6, .ptr 1 0 0), (8, .d (iD k.1))]) (fun _ => [(0, .box 24 [.d (iD e.depth), .d (iD e.burr)] false), (1, .box 24 [.d (iD 0), .d (iD 0)] false)]) (fun k => t.length - k.1) ⟨0, Nat.zero_le _, by simp [fromK]⟩ [0, 1] ?_ ?_
  · refine ⟨by rfl, by simp [], by simp [or_imp, forall_and, ] <;> (try (intro _hne; simp [_hne])), by decide⟩
  rintro ⟨k, hk, hall⟩ kk
  have w1 : IntKind.i64.wrap ((k : Int) + 1) = (k : Int) + 1 := wrap64_in (by omega)
  by_cases hlt : k < t.length
  · obtain ⟨i, hi⟩ : ∃ i, t[k]? = some i := ⟨_, List.getElem?_eq_getElem hlt⟩
    by_cases g : i < 0
    · have hf : fromK 0 ((l.length : Int) - 1) t = false := allK_not hi (p := fun x => inK x 0 ((l.length : Int) - 1)) (decide_eq_false fun h => by omega)
      rw [hf] at hr hx
      simp only [if_true] at hr hx
      subst hx
      repeat (first | (with_reducible first | refine zq1 fun _ => ?_ | refine zq2 fun _ => ?_ | refine zq3 ?_) | ((first | refine zq4 ?_ | refine zq5 fun _ _ => ?_ | refine zq6 ?_); simp [-getElem?_pos, z0, z1, z2, hlt, hi, g]) | ((first | refine AWp.ret ?_ | refine AWp.skip ?_ | refine AWp.exit ?_); try simp only [thenP]) | (with_reducible refine zq7 ?_; simp only [blockP, thenP, reduceIte]) | with_reducible refine zq8 ?_)
      (first | refine RR.ret ?_ | refine RR.normal ?_); simp [hr]
    by_cases g2 : (l.length : Int) ≤ i
    · have hf : fromK 0 ((l.length : Int) - 1) t = false := allK_not hi (p := fun x => inK x 0 ((l.length : Int) - 1)) (decide_eq_false fun h => by omega)
      rw [hf] at hr hx
      simp only [if_true] at hr hx
      subst hx
      repeat (first | (with_reducible first | refine zq1 fun _ => ?_ | refine zq2 fun _ => ?_ | refine zq3 ?_) | ((first | refine zq4 ?_ | refine zq5 fun _ _ => ?_ | refine zq6 ?_); simp [-getElem?_pos, z0, z1, z2, hlt, hi, g, g2]) | ((first | refine AWp.ret ?_ | refine AWp.skip ?_ | refine AWp.exit ?_); try simp only [thenP]) | (with_reducible refine zq7 ?_; simp only [blockP, thenP, reduceIte]) | with_reducible refine zq8 ?_)
      (first | refine RR.ret ?_ | refine RR.normal ?_); simp [hr]
    · have hall2 : fromK 0 ((l.length : Int) - 1) (t.take (k + 1)) = true := by
        unfold fromK at hall ⊢
        rw [allK_take hi, hall, Bool.true_and]
        exact decide_eq_true ⟨by omega, by omega⟩
      repeat (first | (with_reducible first | refine zq1 fun _ => ?_ | refine zq2 fun _ => ?_ | refine zq3 ?_) | ((first | refine zq4 ?_ | refine zq5 fun _ _ => ?_ | refine zq6 ?_); simp [-getElem?_pos, z0, z1, z2, hlt, hi, g, g2, w1]) | ((first | refine AWp.ret ?_ | refine AWp.skip ?_ | refine AWp.exit ?_); try simp only [thenP]) | (with_reducible refine zq7 ?_; simp only [blockP, thenP, reduceIte]) | with_reducible refine zq8 ?_)
      refine LL.go ⟨k + 1, hlt, hall2⟩ [0, 1] ⟨by rfl, by simp [], by simp [or_imp, forall_and, ] <;> (try (intro _hne; simp [_hne])), by decide⟩ ?_
      simp; omega
  obtain rfl : k = t.length := by omega
  rw [List.take_of_length_le (Nat.le_refl _)] at hall
  rw [hall] at hr hx
  simp only [reduceCtorEq, if_false] at hr hx
  repeat (first | (with_reducible first | refine zq1 fun _ => ?_ | refine zq2 fun _ => ?_ | refine zq3 ?_) | ((first | refine zq4 ?_ | refine zq5 fun _ _ => ?_ | refine zq6 ?_); simp [-getElem?_pos, z0, z1, z2, hlt]) | ((first | refine AWp.ret ?_ | refine AWp.skip ?_ | refine AWp.exit ?_); try simp only [thenP]) | (with_reducible refine zq7 ?_; simp only [blockP, thenP, reduceIte]) | with_reducible refine zq8 ?_)
  refine AWp.loopK (ι := { q : Nat × HE // q.1 ≤ t.length ∧ runE l (t.take q.1) e = some q.2 }) (n := 2) (fun q => [(0, .d (boxD l)), (2, .d (intL t)), (4, .ptr 0 0 0), (6, .ptr 1 0 0), (9, .d (iD q.1.1))]) (fun q => [(0, .box 24 [.d (iD q.1.2.depth), .d (iD q.1.2.burr)] false), (1, .box 24 [.d (iD 0), .d (iD 0)] false)]) (fun q => t.length - q.1.1) ⟨(0, e), Nat.zero_le _, by simp [runE]⟩ [0, 1] ?_ ?_
  · refine ⟨by rfl, by simp [], by simp [or_imp, forall_and, ] <;> (try (intro _hne; simp [_hne])), by decide⟩
  clear w1
  rintro ⟨⟨k, e1⟩, hk, hrun⟩ kk
  simp only at hk hrun
  have w1 : IntKind.i64.wrap ((k : Int) + 1) = (k : Int) + 1 := wrap64_in (by omega)
  by_cases hlt : k < t.length
  · obtain ⟨i, hi⟩ : ∃ i, t[k]? = some i := ⟨_, List.getElem?_eq_getElem hlt⟩
    have hib := fromK_mem hall hi
    obtain ⟨j, rfl⟩ := Int.eq_ofNat_of_zero_le hib.1
    have hj : j < l.length := by omega
    obtain ⟨s, hs⟩ : ∃ s, l[j]? = some s := ⟨_, List.getElem?_eq_getElem hj⟩
    have hstep := runE_take hi hrun (s := s) (by simpa using hs)
    have cs := refStroke_c s e1 (goodS hb.all hs) (runE_good hb.all ge hrun)
    rcases hc : canS s e1 <;> rw [hc] at cs hstep
    · have hnone : runE l t e = none := runE_stop (k := k + 1) (by rw [hstep]; rfl)
      rw [hnone] at hr hx
      simp only [Option.getD_none] at hx
      subst hx
      generalize strR s e1 = e2 at *
      repeat (first | (with_reducible first | refine zq1 fun _ => ?_ | refine zq2 fun _ => ?_ | refine zq3 ?_) | ((first | refine zq4 ?_ | refine zq5 fun _ _ => ?_ | refine zq6 ?_); simp [-getElem?_pos, z0, z1, z2, hlt, hi, hj, hs]) | ((first | refine AWp.ret ?_ | refine AWp.skip ?_ | refine AWp.exit ?_); try simp only [thenP]) | (with_reducible refine zq7 ?_; simp only [blockP, thenP, reduceIte]) | with_reducible refine zq8 ?_)
      (first | refine Exec0.call [] cs ?_ rfl ?_ ?_ | refine Exec.call [] cs ?_ rfl ?_ ?_); (focus simp [-getElem?_pos, hs]); (focus simp [-getElem?_pos, z0, z1, z2, hs]); simp [-getElem?_pos, z0, z1, z2, hs]
      repeat (first | (with_reducible first | refine zq1 fun _ => ?_ | refine zq2 fun _ => ?_ | refine zq3 ?_) | ((first | refine zq4 ?_ | refine zq5 fun _ _ => ?_ | refine zq6 ?_); simp [-getElem?_pos, z0, z1, z2, ]) | ((first | refine AWp.ret ?_ | refine AWp.skip ?_ | refine AWp.exit ?_); try simp only [thenP]) | (with_reducible refine zq7 ?_; simp only [blockP, thenP, reduceIte]) | with_reducible refine zq8 ?_)
      (first | refine RR.ret ?_ | refine RR.normal ?_); simp [hr]
    · have hgo : runE l (t.take (k + 1)) e = some (strE s e1) := by rw [hstep]; rfl
      have hsr : strR s e1 = strE s e1 := by rw [strR, hc]; rfl
      rw [hsr] at cs
      generalize strE s e1 = e2 at *
      repeat (first | (with_reducible first | refine zq1 fun _ => ?_ | refine zq2 fun _ => ?_ | refine zq3 ?_) | ((first | refine zq4 ?_ | refine zq5 fun _ _ => ?_ | refine zq6 ?_); simp [-getElem?_pos, z0, z1, z2, hlt, hi, hj, hs]) | ((first | refine AWp.ret ?_ | refine AWp.skip ?_ | refine AWp.exit ?_); try simp only [thenP]) | (with_reducible refine zq7 ?_; simp only [blockP, thenP, reduceIte]) | with_reducible refine zq8 ?_)
      (first | refine Exec0.call [] cs ?_ rfl ?_ ?_ | refine Exec.call [] cs ?_ rfl ?_ ?_); (focus simp [-getElem?_pos, hs]); (focus simp [-getElem?_pos, z0, z1, z2, hs]); simp [-getElem?_pos, z0, z1, z2, hs]
      repeat (first | (with_reducible first | refine zq1 fun _ => ?_ | refine zq2 fun _ => ?_ | refine zq3 ?_) | ((first | refine zq4 ?_ | refine zq5 fun _ _ => ?_ | refine zq6 ?_); simp [-getElem?_pos, z0, z1, z2, w1]) | ((first | refine AWp.ret ?_ | refine AWp.skip ?_ | refine AWp.exit ?_); try simp only [thenP]) | (with_reducible refine zq7 ?_; simp only [blockP, thenP, reduceIte]) | with_reducible refine zq8 ?_)
      refine LL.go ⟨(k + 1, e2), hlt, hgo⟩ [0, 1] ⟨by rfl, by simp [], by simp [or_imp, forall_and, ] <;> (try (intro _hne; simp [_hne])), by decide⟩ ?_
      simp; omega
  · obtain rfl : k = t.length := by omega
    rw [List.take_of_length_le (Nat.le_refl _)] at hrun
    rw [hrun] at hr hx
    simp only [Option.getD_some] at hx
    subst hx
    repeat (first | (with_reducible first | refine zq1 fun _ => ?_ | refine zq2 fun _ => ?_ | refine zq3 ?_) | ((first | refine zq4 ?_ | refine zq5 fun _ _ => ?_ | refine zq6 ?_); simp [-getElem?_pos, z0, z1, z2, hlt]) | ((first | refine AWp.ret ?_ | refine AWp.skip ?_ | refine AWp.exit ?_); try simp only [thenP]) | (with_reducible refine zq7 ?_; simp only [blockP, thenP, reduceIte]) | with_reducible refine zq8 ?_)
    (first | refine RR.ret ?_ | refine RR.normal ?_); simp [hr]
theorem aft_eq {l : List HS} {e : HE} {t : List Int} (h : chkErr l [e] = 0) : aftE l e t = af0E l e t ∧ aftR l e t = af0R l e t := by
  simp only [aftE, aftR, h, if_true]
  exact ⟨rfl, rfl⟩
theorem chk_twice (l : List HS) (e : HE) : chkErr l [e, e] = chkErr l [e] := by simp [chkErr]
set_option maxRecDepth 100000 in
set_option maxHeartbeats 4000000 in
theorem refAfter_c (l : List HS) (e : HE) (t : List Int) (ht : t.length ≤ 1000000) : ACall Try.prog 18 [boxD l, edgD e, intL t] (.tup [edgD (aftR l e t), iD (aftE l e t)]) := by
  have ca := refAsked_c l e e
  rw [chk_twice] at ca
  by_cases h0 : chkErr l [e] = 0
  · obtain ⟨hb, hes⟩ := chkOk h0
    have ge := goodE (e := e) (by simpa using hes)
    have c1 := refAfterError_c l hb e ge t ht
    rw [(aft_eq h0).1, (aft_eq h0).2]
    rw [h0] at ca
    generalize af0E l e t = r at *
    generalize af0R l e t = x at *
    refine acallK tabOk Try.func18 rfl rfl (show 3 ≤ _ by decide) rfl fun _ => ?_; simp only [Try.ntmps18]
    repeat (first | (with_reducible first | refine zq1 fun _ => ?_ | refine zq2 fun _ => ?_ | refine zq3 ?_) | ((first | refine zq4 ?_ | refine zq5 fun _ _ => ?_ | refine zq6 ?_); simp [-getElem?_pos, z0, z1, z2, ]) | ((first | refine AWp.ret ?_ | refine AWp.skip ?_ | refine AWp.exit ?_); try simp only [thenP]) | (with_reducible refine zq7 ?_; simp only [blockP, thenP, reduceIte]) | with_reducible refine zq8 ?_)
    (first | refine Exec0.call [] ca ?_ rfl ?_ ?_ | refine Exec.call [] ca ?_ rfl ?_ ?_); (focus simp [-getElem?_pos, ]); (focus simp [-getElem?_pos, z0, z1, z2, ]); simp [-getElem?_pos, z0, z1, z2, ]
    repeat (first | (with_reducible first | refine zq1 fun _ => ?_ | refine zq2 fun _ => ?_ | refine zq3 ?_) | ((first | refine zq4 ?_ | refine zq5 fun _ _ => ?_ | refine zq6 ?_); simp [-getElem?_pos, z0, z1, z2, ]) | ((first | refine AWp.ret ?_ | refine AWp.skip ?_ | refine AWp.exit ?_); try simp only [thenP]) | (with_reducible refine zq7 ?_; simp only [blockP, thenP, reduceIte]) | with_reducible refine zq8 ?_)
    (first | refine Exec0.call [] c1 ?_ rfl ?_ ?_ | refine Exec.call [] c1 ?_ rfl ?_ ?_); (focus simp [-getElem?_pos, ]); (focus simp [-getElem?_pos, z0, z1, z2, ]); simp [-getElem?_pos, z0, z1, z2, ]
    repeat (first | (with_reducible first | refine zq1 fun _ => ?_ | refine zq2 fun _ => ?_ | refine zq3 ?_) | ((first | refine zq4 ?_ | refine zq5 fun _ _ => ?_ | refine zq6 ?_); simp [-getElem?_pos, z0, z1, z2, ]) | ((first | refine AWp.ret ?_ | refine AWp.skip ?_ | refine AWp.exit ?_); try simp only [thenP]) | (with_reducible refine zq7 ?_; simp only [blockP, thenP, reduceIte]) | with_reducible refine zq8 ?_)
    (first | refine RR.ret ?_ | refine RR.normal ?_); simp []
  · have hr : aftE l e t = chkErr l [e] := if_neg h0
    have hx : aftR l e t = ⟨0, 0⟩ := if_neg h0
    rw [hr, hx]
    generalize chkErr l [e] = b at *
    refine acallK tabOk Try.func18 rfl rfl (show 3 ≤ _ by decide) rfl fun _ => ?_; simp only [Try.ntmps18]
    repeat (first | (with_reducible first | refine zq1 fun _ => ?_ | refine zq2 fun _ => ?_ | refine zq3 ?_) | ((first | refine zq4 ?_ | refine zq5 fun _ _ => ?_ | refine zq6 ?_); simp [-getElem?_pos, z0, z1, z2, ]) | ((first | refine AWp.ret ?_ | refine AWp.skip ?_ | refine AWp.exit ?_); try simp only [thenP]) | (with_reducible refine zq7 ?_; simp only [blockP, thenP, reduceIte]) | with_reducible refine zq8 ?_)
    (first | refine Exec0.call [] ca ?_ rfl ?_ ?_ | refine Exec.call [] ca ?_ rfl ?_ ?_); (focus simp [-getElem?_pos, h0]); (focus simp [-getElem?_pos, z0, z1, z2, h0]); simp [-getElem?_pos, z0, z1, z2, h0]
    repeat (first | (with_reducible first | refine zq1 fun _ => ?_ | refine zq2 fun _ => ?_ | refine zq3 ?_) | ((first | refine zq4 ?_ | refine zq5 fun _ _ => ?_ | refine zq6 ?_); simp [-getElem?_pos, z0, z1, z2, h0]) | ((first | refine AWp.ret ?_ | refine AWp.skip ?_ | refine AWp.exit ?_); try simp only [thenP]) | (with_reducible refine zq7 ?_; simp only [blockP, thenP, reduceIte]) | with_reducible refine zq8 ?_)
    (first | refine Exec0.call [] ca ?_ rfl ?_ ?_ | refine Exec.call [] ca ?_ rfl ?_ ?_); (focus simp [-getElem?_pos, ]); (focus simp [-getElem?_pos, z0, z1, z2, ]); simp [-getElem?_pos, z0, z1, z2, ]
    repeat (first | (with_reducible first | refine zq1 fun _ => ?_ | refine zq2 fun _ => ?_ | refine zq3 ?_) | ((first | refine zq4 ?_ | refine zq5 fun _ _ => ?_ | refine zq6 ?_); simp [-getElem?_pos, z0, z1, z2, ]) | ((first | refine AWp.ret ?_ | refine AWp.skip ?_ | refine AWp.exit ?_); try simp only [thenP]) | (with_reducible refine zq7 ?_; simp only [blockP, thenP, reduceIte]) | with_reducible refine zq8 ?_)
    (first | refine RR.ret ?_ | refine RR.normal ?_); simp []
theorem great_c (l : List HS) : ACall Try.prog 15 [boxD l] (bD (decide (10 < l.length))) := by
  by_cases g : 10 < l.length
  · rw [decide_eq_true g]
    have g' : (10 : Int) < l.length := by omega
    refine acallK tabOk Try.func15 rfl rfl (show 1 ≤ _ by decide) rfl fun _ => ?_; simp only [Try.ntmps15]
    repeat (first | (with_reducible first | refine zq1 fun _ => ?_ | refine zq2 fun _ => ?_ | refine zq3 ?_) | ((first | refine zq4 ?_ | refine zq5 fun _ _ => ?_ | refine zq6 ?_); simp [-getElem?_pos, z0, z1, z2, g, g']) | ((first | refine AWp.ret ?_ | refine AWp.skip ?_ | refine AWp.exit ?_); try simp only [thenP]) | (with_reducible refine zq7 ?_; simp only [blockP, thenP, reduceIte]) | with_reducible refine zq8 ?_)
    (first | refine RR.ret ?_ | refine RR.normal ?_); simp []
  · rw [decide_eq_false g]
    have g' : ¬ (10 : Int) < l.length := by omega
    refine acallK tabOk Try.func15 rfl rfl (show 1 ≤ _ by decide) rfl fun _ => ?_; simp only [Try.ntmps15]
    repeat (first | (with_reducible first | refine zq1 fun _ => ?_ | refine zq2 fun _ => ?_ | refine zq3 ?_) | ((first | refine zq4 ?_ | refine zq5 fun _ _ => ?_ | refine zq6 ?_); simp [-getElem?_pos, z0, z1, z2, g, g']) | ((first | refine AWp.ret ?_ | refine AWp.skip ?_ | refine AWp.exit ?_); try simp only [thenP]) | (with_reducible refine zq7 ?_; simp only [blockP, thenP, reduceIte]) | with_reducible refine zq8 ?_)
    (first | refine RR.ret ?_ | refine RR.normal ?_); simp []
set_option maxRecDepth 100000 in
set_option maxHeartbeats 8000000 in
theorem honeBoxes_c (hw : ACall Try.prog 16 [] (.val (.bool true))) (l : List HS) (e : HE) (t : List Int) : ACall Try.prog 3 [boxD l, edgD e, intL t] (bD true) := by
  have cg := great_c l
  by_cases g : 10 < l.length
  · rw [decide_eq_true g] at cg
    refine acallK tabOk Try.func3 rfl rfl (show 3 ≤ _ by decide) rfl fun _ => ?_; simp only [Try.ntmps3]
    repeat (first | (with_reducible first | refine zq1 fun _ => ?_ | refine zq2 fun _ => ?_ | refine zq3 ?_) | ((first | refine zq4 ?_ | refine zq5 fun _ _ => ?_ | refine zq6 ?_); simp [-getElem?_pos, z0, z1, z2, ]) | ((first | refine AWp.ret ?_ | refine AWp.skip ?_ | refine AWp.exit ?_); try simp only [thenP]) | (with_reducible refine zq7 ?_; simp only [blockP, thenP, reduceIte]) | with_reducible refine zq8 ?_)
    (first | refine Exec0.call [] cg ?_ rfl ?_ ?_ | refine Exec.call [] cg ?_ rfl ?_ ?_); (focus simp [-getElem?_pos, ]); (focus simp [-getElem?_pos, z0, z1, z2, ]); simp [-getElem?_pos, z0, z1, z2, ]
    repeat (first | (with_reducible first | refine zq1 fun _ => ?_ | refine zq2 fun _ => ?_ | refine zq3 ?_) | ((first | refine zq4 ?_ | refine zq5 fun _ _ => ?_ | refine zq6 ?_); simp [-getElem?_pos, z0, z1, z2, ]) | ((first | refine AWp.ret ?_ | refine AWp.skip ?_ | refine AWp.exit ?_); try simp only [thenP]) | (with_reducible refine zq7 ?_; simp only [blockP, thenP, reduceIte]) | with_reducible refine zq8 ?_)
    (first | refine Exec0.call [] hw ?_ rfl ?_ ?_ | refine Exec.call [] hw ?_ rfl ?_ ?_); (focus simp [-getElem?_pos, ]); (focus simp [-getElem?_pos, z0, z1, z2, ]); simp [-getElem?_pos, z0, z1, z2, ]
    repeat (first | (with_reducible first | refine zq1 fun _ => ?_ | refine zq2 fun _ => ?_ | refine zq3 ?_) | ((first | refine zq4 ?_ | refine zq5 fun _ _ => ?_ | refine zq6 ?_); simp [-getElem?_pos, z0, z1, z2, ]) | ((first | refine AWp.ret ?_ | refine AWp.skip ?_ | refine AWp.exit ?_); try simp only [thenP]) | (with_reducible refine zq7 ?_; simp only [blockP, thenP, reduceIte]) | with_reducible refine zq8 ?_)
    (first | refine RR.ret ?_ | refine RR.normal ?_); simp []
  rw [decide_eq_false g] at cg
  by_cases g2 : 900 < t.length
  · have g2' : (900 : Int) < t.length := by omega
    refine acallK tabOk Try.func3 rfl rfl (show 3 ≤ _ by decide) rfl fun _ => ?_; simp only [Try.ntmps3]
    repeat (first | (with_reducible first | refine zq1 fun _ => ?_ | refine zq2 fun _ => ?_ | refine zq3 ?_) | ((first | refine zq4 ?_ | refine zq5 fun _ _ => ?_ | refine zq6 ?_); simp [-getElem?_pos, z0, z1, z2, ]) | ((first | refine AWp.ret ?_ | refine AWp.skip ?_ | refine AWp.exit ?_); try simp only [thenP]) | (with_reducible refine zq7 ?_; simp only [blockP, thenP, reduceIte]) | with_reducible refine zq8 ?_)
    (first | refine Exec0.call [] cg ?_ rfl ?_ ?_ | refine Exec.call [] cg ?_ rfl ?_ ?_); (focus simp [-getElem?_pos, ]); (focus simp [-getElem?_pos, z0, z1, z2, ]); simp [-getElem?_pos, z0, z1, z2, ]
    repeat (first | (with_reducible first | refine zq1 fun _ => ?_ | refine zq2 fun _ => ?_ | refine zq3 ?_) | ((first | refine zq4 ?_ | refine zq5 fun _ _ => ?_ | refine zq6 ?_); simp [-getElem?_pos, z0, z1, z2, g2, g2']) | ((first | refine AWp.ret ?_ | refine AWp.skip ?_ | refine AWp.exit ?_); try simp only [thenP]) | (with_reducible refine zq7 ?_; simp only [blockP, thenP, reduceIte]) | with_reducible refine zq8 ?_)
    (first | refine Exec0.call [] hw ?_ rfl ?_ ?_ | refine Exec.call [] hw ?_ rfl ?_ ?_); (focus simp [-getElem?_pos, ]); (focus simp [-getElem?_pos, z0, z1, z2, ]); simp [-getElem?_pos, z0, z1, z2, ]
    repeat (first | (with_reducible first | refine zq1 fun _ => ?_ | refine zq2 fun _ => ?_ | refine zq3 ?_) | ((first | refine zq4 ?_ | refine zq5 fun _ _ => ?_ | refine zq6 ?_); simp [-getElem?_pos, z0, z1, z2, ]) | ((first | refine AWp.ret ?_ | refine AWp.skip ?_ | refine AWp.exit ?_); try simp only [thenP]) | (with_reducible refine zq7 ?_; simp only [blockP, thenP, reduceIte]) | with_reducible refine zq8 ?_)
    (first | refine RR.ret ?_ | refine RR.normal ?_); simp []
  have g2' : ¬ (900 : Int) < t.length := by omega
  have c1 := checkBox_c l
  have c2 := refCheckBox_c l
  have c3 := after_c l e t (by omega)
  have c4 := refAfter_c l e t (by omega)
  generalize boxErr l = b at *
  generalize aftE l e t = r at *
  generalize aftR l e t = x at *
  obtain ⟨x1, x2⟩ := x
  refine acallK tabOk Try.func3 rfl rfl (show 3 ≤ _ by decide) rfl fun _ => ?_; simp only [Try.ntmps3]
  repeat (first | (with_reducible first | refine zq1 fun _ => ?_ | refine zq2 fun _ => ?_ | refine zq3 ?_) | ((first | refine zq4 ?_ | refine zq5 fun _ _ => ?_ | refine zq6 ?_); simp [-getElem?_pos, z0, z1, z2, ]) | ((first | refine AWp.ret ?_ | refine AWp.skip ?_ | refine AWp.exit ?_); try simp only [thenP]) | (with_reducible refine zq7 ?_; simp only [blockP, thenP, reduceIte]) | with_reducible refine zq8 ?_)
  (first | refine Exec0.call [] cg ?_ rfl ?_ ?_ | refine Exec.call [] cg ?_ rfl ?_ ?_); (focus simp [-getElem?_pos, ]); (focus simp [-getElem?_pos, z0, z1, z2, ]); simp [-getElem?_pos, z0, z1, z2, ]
  repeat (first | (with_reducible first | refine zq1 fun _ => ?_ | refine zq2 fun _ => ?_ | refine zq3 ?_) | ((first | refine zq4 ?_ | refine zq5 fun _ _ => ?_ | refine zq6 ?_); simp [-getElem?_pos, z0, z1, z2, g2, g2']) | ((first | refine AWp.ret ?_ | refine AWp.skip ?_ | refine AWp.exit ?_); try simp only [thenP]) | (with_reducible refine zq7 ?_; simp only [blockP, thenP, reduceIte]) | with_reducible refine zq8 ?_)
  (first | refine Exec0.call [] c3 ?_ rfl ?_ ?_ | refine Exec.call [] c3 ?_ rfl ?_ ?_); (focus simp [-getElem?_pos, ]); (focus simp [-getElem?_pos, z0, z1, z2, ]); simp [-getElem?_pos, z0, z1, z2, ]
  repeat (first | (with_reducible first | refine zq1 fun _ => ?_ | refine zq2 fun _ => ?_ | refine zq3 ?_) | ((first | refine zq4 ?_ | refine zq5 fun _ _ => ?_ | refine zq6 ?_); simp [-getElem?_pos, z0, z1, z2, ]) | ((first | refine AWp.ret ?_ | refine AWp.skip ?_ | refine AWp.exit ?_); try simp only [thenP]) | (with_reducible refine zq7 ?_; simp only [blockP, thenP, reduceIte]) | with_reducible refine zq8 ?_)
  (first | refine Exec0.call [] c4 ?_ rfl ?_ ?_ | refine Exec.call [] c4 ?_ rfl ?_ ?_); (focus simp [-getElem?_pos, ]); (focus simp [-getElem?_pos, z0, z1, z2, ]); simp [-getElem?_pos, z0, z1, z2, ]
  repeat (first | (with_reducible first | refine zq1 fun _ => ?_ | refine zq2 fun _ => ?_ | refine zq3 ?_) | ((first | refine zq4 ?_ | refine zq5 fun _ _ => ?_ | refine zq6 ?_); simp [-getElem?_pos, z0, z1, z2, ]) | ((first | refine AWp.ret ?_ | refine AWp.skip ?_ | refine AWp.exit ?_); try simp only [thenP]) | (with_reducible refine zq7 ?_; simp only [blockP, thenP, reduceIte]) | with_reducible refine zq8 ?_)
  (first | refine Exec0.call [] c1 ?_ rfl ?_ ?_ | refine Exec.call [] c1 ?_ rfl ?_ ?_); (focus simp [-getElem?_pos, ]); (focus simp [-getElem?_pos, z0, z1, z2, ]); simp [-getElem?_pos, z0, z1, z2, ]
  repeat (first | (with_reducible first | refine zq1 fun _ => ?_ | refine zq2 fun _ => ?_ | refine zq3 ?_) | ((first | refine zq4 ?_ | refine zq5 fun _ _ => ?_ | refine zq6 ?_); simp [-getElem?_pos, z0, z1, z2, ]) | ((first | refine AWp.ret ?_ | refine AWp.skip ?_ | refine AWp.exit ?_); try simp only [thenP]) | (with_reducible refine zq7 ?_; simp only [blockP, thenP, reduceIte]) | with_reducible refine zq8 ?_)
  (first | refine Exec0.call [] c2 ?_ rfl ?_ ?_ | refine Exec.call [] c2 ?_ rfl ?_ ?_); (focus simp [-getElem?_pos, ]); (focus simp [-getElem?_pos, z0, z1, z2, ]); simp [-getElem?_pos, z0, z1, z2, ]
  repeat (first | (with_reducible first | refine zq1 fun _ => ?_ | refine zq2 fun _ => ?_ | refine zq3 ?_) | ((first | refine zq4 ?_ | refine zq5 fun _ _ => ?_ | refine zq6 ?_); simp [-getElem?_pos, z0, z1, z2, ]) | ((first | refine AWp.ret ?_ | refine AWp.skip ?_ | refine AWp.exit ?_); try simp only [thenP]) | (with_reducible refine zq7 ?_; simp only [blockP, thenP, reduceIte]) | with_reducible refine zq8 ?_)
  (first | refine Exec0.call [] hw ?_ rfl ?_ ?_ | refine Exec.call [] hw ?_ rfl ?_ ?_); (focus simp [-getElem?_pos, ]); (focus simp [-getElem?_pos, z0, z1, z2, ]); simp [-getElem?_pos, z0, z1, z2, ]
  repeat (first | (with_reducible first | refine zq1 fun _ => ?_ | refine zq2 fun _ => ?_ | refine zq3 ?_) | ((first | refine zq4 ?_ | refine zq5 fun _ _ => ?_ | refine zq6 ?_); simp [-getElem?_pos, z0, z1, z2, ]) | ((first | refine AWp.ret ?_ | refine AWp.skip ?_ | refine AWp.exit ?_); try simp only [thenP]) | (with_reducible refine zq7 ?_; simp only [blockP, thenP, reduceIte]) | with_reducible refine zq8 ?_)
  (first | refine RR.ret ?_ | refine RR.normal ?_); simp []
def shStone : Sh := .cons (.int .i64) (.cons (.int .i64) (.cons (.int .i64) .nil))
def shEdge : Sh := .cons (.int .i64) (.cons (.int .i64) .nil)
theorem stone_in {r : List Dat} (h : shStone.Row r) : ∃ s : HS, r = hsRow s := by
  obtain ⟨_, _, rfl, ⟨a, rfl, _⟩, _, _, rfl, ⟨b, rfl, _⟩, _, _, rfl, ⟨c, rfl, _⟩, rfl⟩ := h
  exact ⟨⟨a, b, c⟩, rfl⟩
theorem box_in {d : Dat} (h : (Sh.sl shStone).D d) : ∃ l : List HS, d = boxD l := by
  obtain ⟨rows, rfl, hr⟩ := h
  obtain ⟨l, rfl⟩ := rows_of fun x hx => stone_in (hr x hx)
  exact ⟨l, rfl⟩
theorem edge_in {d : Dat} (h : shEdge.D d) : ∃ e : HE, d = edgD e := by
  obtain ⟨_, rfl, _, _, rfl, ⟨a, rfl, _⟩, _, _, rfl, ⟨b, rfl, _⟩, rfl⟩ := h
  exact ⟨⟨a, b⟩, rfl⟩
end Go.Proofs.Ytgiomfamlbmpcaa.Eng
