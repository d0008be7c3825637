/-
  A part of the texts that the claim builds on: see the last one.
-/
import Derived.Test.YtcmkkgdjhjpldaaDl2
import Derived.Test.YtcmkkgdjhjpldaaProg
import Derived.MapKept
import Derived.DeepKeys
import Derived.Lib.AppendZeros
import Derived.Maps.RangeRun
set_option linter.unusedSimpArgs false
set_option linter.unusedVariables false
namespace Go.Proofs.Ytcmkkgdjhjpldaa.Eng
open Go.RowKit
theorem info1 : (Try.prog.info? 1).map (fun i => (i.zero, i.size, i.bytes)) = some (some (.nilFunc), 1, 8) := by kernel_rfl
theorem ti1 : TiOk Try.prog 1 { size := 1, bytes := 8, zero := [.nilFunc], kind := .cell } := tiOk_mk info1 rfl rfl rfl (by decide) (⟨_, Try.underlying1, fun _ h => TypeDesc.noConfusion h, fun _ _ h => TypeDesc.noConfusion h⟩) (by decide) (fun h => absurd rfl h)
theorem info2 : (Try.prog.info? 2).map (fun i => (i.zero, i.size, i.bytes)) = some (some (.int .i64 0), 1, 8) := by kernel_rfl
theorem ti2 : TiOk Try.prog 2 { size := 1, bytes := 8, zero := [.int .i64 0], kind := .int .i64 } := tiOk_mk info2 rfl rfl rfl (by decide) (Try.underlying2) (by decide) (fun h => absurd rfl h)
theorem info3 : (Try.prog.info? 3).map (fun i => (i.zero, i.size, i.bytes)) = some (some (.int .i64 0), 1, 8) := by kernel_rfl
theorem ti3 : TiOk Try.prog 3 { size := 1, bytes := 8, zero := [.int .i64 0], kind := .int .i64 } := tiOk_mk info3 rfl rfl rfl (by decide) (Try.underlying3) (by decide) (fun h => absurd rfl h)
theorem info4 : (Try.prog.info? 4).map (fun i => (i.zero, i.size, i.bytes)) = some (some (.bool false), 1, 1) := by kernel_rfl
theorem ti4 : TiOk Try.prog 4 { size := 1, bytes := 1, zero := [.bool false], kind := .bool } := tiOk_mk info4 rfl rfl rfl (by decide) (Try.underlying4) (by decide) (fun h => absurd rfl h)
theorem info5 : (Try.prog.info? 5).map (fun i => (i.zero, i.size, i.bytes)) = some (some (.int .u8 0), 1, 1) := by kernel_rfl
theorem ti5 : TiOk Try.prog 5 { size := 1, bytes := 1, zero := [.int .u8 0], kind := .int .u8 } := tiOk_mk info5 rfl rfl rfl (by decide) (Try.underlying5) (by decide) (fun h => absurd rfl h)
theorem info6 : (Try.prog.info? 6).map (fun i => (i.zero, i.size, i.bytes)) = some (some (.int .u8 0), 1, 1) := by kernel_rfl
theorem ti6 : TiOk Try.prog 6 { size := 1, bytes := 1, zero := [.int .u8 0], kind := .int .u8 } := tiOk_mk info6 rfl rfl rfl (by decide) (Try.underlying6) (by decide) (fun h => absurd rfl h)
theorem info7 : (Try.prog.info? 7).map (fun i => (i.zero, i.size, i.bytes)) = some (some (.agg #[.int .i64 0, .int .i64 0, .bool false, .int .u8 0]), 4, 24) := by kernel_rfl
theorem ti7 : TiOk Try.prog 7 { size := 4, bytes := 24, zero := [.int .i64 0, .int .i64 0, .bool false, .int .u8 0], kind := .struct [(0, 2), (1, 3), (2, 4), (3, 6)] } := tiOk_mk info7 rfl rfl rfl (by decide) (⟨_, Try.underlying7, rfl⟩) (by decide) (fun h => absurd rfl h)
theorem info8 : (Try.prog.info? 8).map (fun i => (i.zero, i.size, i.bytes)) = some (some (.agg #[.int .i64 0, .int .i64 0, .bool false, .int .u8 0]), 4, 24) := by kernel_rfl
theorem ti8 : TiOk Try.prog 8 { size := 4, bytes := 24, zero := [.int .i64 0, .int .i64 0, .bool false, .int .u8 0], kind := .struct [(0, 2), (1, 3), (2, 4), (3, 6)] } := tiOk_mk info8 rfl rfl rfl (by decide) (⟨_, Try.underlying8, rfl⟩) (by decide) (fun h => absurd rfl h)
theorem info12 : (Try.prog.info? 12).map (fun i => (i.zero, i.size, i.bytes)) = some (some (.int .u64 0), 1, 8) := by kernel_rfl
theorem ti12 : TiOk Try.prog 12 { size := 1, bytes := 8, zero := [.int .u64 0], kind := .int .u64 } := tiOk_mk info12 rfl rfl rfl (by decide) (Try.underlying12) (by decide) (fun h => absurd rfl h)
theorem info15 : (Try.prog.info? 15).map (fun i => (i.zero, i.size, i.bytes)) = some (some (.pointer none), 1, 8) := by kernel_rfl
theorem ti15 : TiOk Try.prog 15 { size := 1, bytes := 8, zero := [.pointer none], kind := .cell } := tiOk_mk info15 rfl rfl rfl (by decide) (⟨_, Try.underlying15, fun _ h => TypeDesc.noConfusion h, fun _ _ h => TypeDesc.noConfusion h⟩) (by decide) (fun h => absurd rfl h)
theorem info16 : (Try.prog.info? 16).map (fun i => (i.zero, i.size, i.bytes)) = some (some (.pointer none), 1, 8) := by kernel_rfl
theorem ti16 : TiOk Try.prog 16 { size := 1, bytes := 8, zero := [.pointer none], kind := .cell } := tiOk_mk info16 rfl rfl rfl (by decide) (⟨_, Try.underlying16, fun _ h => TypeDesc.noConfusion h, fun _ _ h => TypeDesc.noConfusion h⟩) (by decide) (fun h => absurd rfl h)
theorem info17 : (Try.prog.info? 17).map (fun i => (i.zero, i.size, i.bytes)) = some (some (.pointer none), 1, 8) := by kernel_rfl
theorem ti17 : TiOk Try.prog 17 { size := 1, bytes := 8, zero := [.pointer none], kind := .cell } := tiOk_mk info17 rfl rfl rfl (by decide) (⟨_, Try.underlying17, fun _ h => TypeDesc.noConfusion h, fun _ _ h => TypeDesc.noConfusion h⟩) (by decide) (fun h => absurd rfl h)
theorem info18 : (Try.prog.info? 18).map (fun i => (i.zero, i.size, i.bytes)) = some (some (.agg #[.pointer none]), 1, 8) := by kernel_rfl
theorem ti18 : TiOk Try.prog 18 { size := 1, bytes := 8, zero := [.pointer none], kind := .struct [(0, 17)] } := tiOk_mk info18 rfl rfl rfl (by decide) (⟨_, Try.underlying18, rfl⟩) (by decide) (fun h => absurd rfl h)
theorem info19 : (Try.prog.info? 19).map (fun i => (i.zero, i.size, i.bytes)) = some (some (.agg #[.pointer none]), 1, 8) := by kernel_rfl
theorem ti19 : TiOk Try.prog 19 { size := 1, bytes := 8, zero := [.pointer none], kind := .struct [(0, 17)] } := tiOk_mk info19 rfl rfl rfl (by decide) (⟨_, Try.underlying19, rfl⟩) (by decide) (fun h => absurd rfl h)
theorem info21 : (Try.prog.info? 21).map (fun i => (i.zero, i.size, i.bytes)) = some (some (.int .i32 0), 1, 4) := by kernel_rfl
theorem ti21 : TiOk Try.prog 21 { size := 1, bytes := 4, zero := [.int .i32 0], kind := .int .i32 } := tiOk_mk info21 rfl rfl rfl (by decide) (Try.underlying21) (by decide) (fun h => absurd rfl h)
theorem info22 : (Try.prog.info? 22).map (fun i => (i.zero, i.size, i.bytes)) = some (some (.slice none 0 0), 1, 24) := by kernel_rfl
theorem ti22 : TiOk Try.prog 22 { size := 1, bytes := 24, zero := [.slice none 0 0], kind := .slice 54 } := tiOk_mk info22 rfl rfl rfl (by decide) (Try.underlying22) (by decide) (fun h => absurd rfl h)
theorem info23 : (Try.prog.info? 23).map (fun i => (i.zero, i.size, i.bytes)) = some (some (.agg #[.int .i64 0, .int .i64 0]), 2, 16) := by kernel_rfl
theorem eqs23 (w : World) (x y : Operand) (m n : List Int) (hm : m.length = 2) (hn : n.length = 2) :
    (do eqGuard .eql 23 x y (aggInts [.i64, .i64] m) (aggInts [.i64, .i64] n); binOp .eql 23 (aggInts [.i64, .i64] m) (aggInts [.i64, .i64] n) : Sem Value).run Try.prog w = .ok (.bool (decide (m = n))) w ∧
    (do eqGuard .neq 23 x y (aggInts [.i64, .i64] m) (aggInts [.i64, .i64] n); binOp .neq 23 (aggInts [.i64, .i64] m) (aggInts [.i64, .i64] n) : Sem Value).run Try.prog w = .ok (.bool (decide (m ≠ n))) w := by
  exact eqs_by_2 w x y hm hn (by kernel_rfl) (by kernel_rfl) Try.underlying23 Try.underlying3 Try.underlying3 (by decide)
theorem ti23 : TiOk Try.prog 23 { size := 2, bytes := 16, zero := [.int .i64 0, .int .i64 0], kind := .struct [(0, 3), (1, 3)], eqk := [.i64, .i64] } := tiOk_mk info23 rfl rfl rfl (by decide) (⟨_, Try.underlying23, rfl⟩) (by decide) (fun _ => eqs23)
theorem info24 : (Try.prog.info? 24).map (fun i => (i.zero, i.size, i.bytes)) = some (some (.agg #[.int .i64 0, .int .i64 0]), 2, 16) := by kernel_rfl
theorem eqs24 (w : World) (x y : Operand) (m n : List Int) (hm : m.length = 2) (hn : n.length = 2) :
    (do eqGuard .eql 24 x y (aggInts [.i64, .i64] m) (aggInts [.i64, .i64] n); binOp .eql 24 (aggInts [.i64, .i64] m) (aggInts [.i64, .i64] n) : Sem Value).run Try.prog w = .ok (.bool (decide (m = n))) w ∧
    (do eqGuard .neq 24 x y (aggInts [.i64, .i64] m) (aggInts [.i64, .i64] n); binOp .neq 24 (aggInts [.i64, .i64] m) (aggInts [.i64, .i64] n) : Sem Value).run Try.prog w = .ok (.bool (decide (m ≠ n))) w := by
  exact eqs_by_2 w x y hm hn (by kernel_rfl) (by kernel_rfl) Try.underlying24 Try.underlying3 Try.underlying3 (by decide)
theorem ti24 : TiOk Try.prog 24 { size := 2, bytes := 16, zero := [.int .i64 0, .int .i64 0], kind := .struct [(0, 3), (1, 3)], eqk := [.i64, .i64] } := tiOk_mk info24 rfl rfl rfl (by decide) (⟨_, Try.underlying24, rfl⟩) (by decide) (fun _ => eqs24)
theorem info25 : (Try.prog.info? 25).map (fun i => (i.zero, i.size, i.bytes)) = some (some (.slice none 0 0), 1, 24) := by kernel_rfl
theorem ti25 : TiOk Try.prog 25 { size := 1, bytes := 24, zero := [.slice none 0 0], kind := .slice 3 } := tiOk_mk info25 rfl rfl rfl (by decide) (Try.underlying25) (by decide) (fun h => absurd rfl h)
theorem info26 : (Try.prog.info? 26).map (fun i => (i.zero, i.size, i.bytes)) = some (some (.nilFunc), 1, 8) := by kernel_rfl
theorem ti26 : TiOk Try.prog 26 { size := 1, bytes := 8, zero := [.nilFunc], kind := .cell } := tiOk_mk info26 rfl rfl rfl (by decide) (⟨_, Try.underlying26, fun _ h => TypeDesc.noConfusion h, fun _ _ h => TypeDesc.noConfusion h⟩) (by decide) (fun h => absurd rfl h)
theorem info27 : (Try.prog.info? 27).map (fun i => (i.zero, i.size, i.bytes)) = some (some (.nilFunc), 1, 8) := by kernel_rfl
theorem ti27 : TiOk Try.prog 27 { size := 1, bytes := 8, zero := [.nilFunc], kind := .cell } := tiOk_mk info27 rfl rfl rfl (by decide) (⟨_, Try.underlying27, fun _ h => TypeDesc.noConfusion h, fun _ _ h => TypeDesc.noConfusion h⟩) (by decide) (fun h => absurd rfl h)
theorem info28 : (Try.prog.info? 28).map (fun i => (i.zero, i.size, i.bytes)) = some (some (.int .i64 0), 1, 8) := by kernel_rfl
theorem ti28 : TiOk Try.prog 28 { size := 1, bytes := 8, zero := [.int .i64 0], kind := .int .i64 } := tiOk_mk info28 rfl rfl rfl (by decide) (Try.underlying28) (by decide) (fun h => absurd rfl h)
theorem info30 : (Try.prog.info? 30).map (fun i => (i.zero, i.size, i.bytes)) = some (some (.nilFunc), 1, 8) := by kernel_rfl
theorem ti30 : TiOk Try.prog 30 { size := 1, bytes := 8, zero := [.nilFunc], kind := .cell } := tiOk_mk info30 rfl rfl rfl (by decide) (⟨_, Try.underlying30, fun _ h => TypeDesc.noConfusion h, fun _ _ h => TypeDesc.noConfusion h⟩) (by decide) (fun h => absurd rfl h)
theorem info31 : (Try.prog.info? 31).map (fun i => (i.zero, i.size, i.bytes)) = some (some (.nilFunc), 1, 8) := by kernel_rfl
theorem ti31 : TiOk Try.prog 31 { size := 1, bytes := 8, zero := [.nilFunc], kind := .cell } := tiOk_mk info31 rfl rfl rfl (by decide) (⟨_, Try.underlying31, fun _ h => TypeDesc.noConfusion h, fun _ _ h => TypeDesc.noConfusion h⟩) (by decide) (fun h => absurd rfl h)
theorem info32 : (Try.prog.info? 32).map (fun i => (i.zero, i.size, i.bytes)) = some (some (.nilFunc), 1, 8) := by kernel_rfl
theorem ti32 : TiOk Try.prog 32 { size := 1, bytes := 8, zero := [.nilFunc], kind := .cell } := tiOk_mk info32 rfl rfl rfl (by decide) (⟨_, Try.underlying32, fun _ h => TypeDesc.noConfusion h, fun _ _ h => TypeDesc.noConfusion h⟩) (by decide) (fun h => absurd rfl h)
theorem info34 : (Try.prog.info? 34).map (fun i => (i.zero, i.size, i.bytes)) = some (some (.nilFunc), 1, 8) := by kernel_rfl
theorem ti34 : TiOk Try.prog 34 { size := 1, bytes := 8, zero := [.nilFunc], kind := .cell } := tiOk_mk info34 rfl rfl rfl (by decide) (⟨_, Try.underlying34, fun _ h => TypeDesc.noConfusion h, fun _ _ h => TypeDesc.noConfusion h⟩) (by decide) (fun h => absurd rfl h)
theorem info35 : (Try.prog.info? 35).map (fun i => (i.zero, i.size, i.bytes)) = some (some (.nilFunc), 1, 8) := by kernel_rfl
theorem ti35 : TiOk Try.prog 35 { size := 1, bytes := 8, zero := [.nilFunc], kind := .cell } := tiOk_mk info35 rfl rfl rfl (by decide) (⟨_, Try.underlying35, fun _ h => TypeDesc.noConfusion h, fun _ _ h => TypeDesc.noConfusion h⟩) (by decide) (fun h => absurd rfl h)
theorem info36 : (Try.prog.info? 36).map (fun i => (i.zero, i.size, i.bytes)) = some (some (.nilFunc), 1, 8) := by kernel_rfl
theorem ti36 : TiOk Try.prog 36 { size := 1, bytes := 8, zero := [.nilFunc], kind := .cell } := tiOk_mk info36 rfl rfl rfl (by decide) (⟨_, Try.underlying36, fun _ h => TypeDesc.noConfusion h, fun _ _ h => TypeDesc.noConfusion h⟩) (by decide) (fun h => absurd rfl h)
theorem info37 : (Try.prog.info? 37).map (fun i => (i.zero, i.size, i.bytes)) = some (some (.slice none 0 0), 1, 24) := by kernel_rfl
theorem ti37 : TiOk Try.prog 37 { size := 1, bytes := 24, zero := [.slice none 0 0], kind := .slice 25 } := tiOk_mk info37 rfl rfl rfl (by decide) (Try.underlying37) (by decide) (fun h => absurd rfl h)
theorem info38 : (Try.prog.info? 38).map (fun i => (i.zero, i.size, i.bytes)) = some (some (.nilFunc), 1, 8) := by kernel_rfl
theorem ti38 : TiOk Try.prog 38 { size := 1, bytes := 8, zero := [.nilFunc], kind := .cell } := tiOk_mk info38 rfl rfl rfl (by decide) (⟨_, Try.underlying38, fun _ h => TypeDesc.noConfusion h, fun _ _ h => TypeDesc.noConfusion h⟩) (by decide) (fun h => absurd rfl h)
theorem info40 : (Try.prog.info? 40).map (fun i => (i.zero, i.size, i.bytes)) = some (some (.nilFunc), 1, 8) := by kernel_rfl
theorem ti40 : TiOk Try.prog 40 { size := 1, bytes := 8, zero := [.nilFunc], kind := .cell } := tiOk_mk info40 rfl rfl rfl (by decide) (⟨_, Try.underlying40, fun _ h => TypeDesc.noConfusion h, fun _ _ h => TypeDesc.noConfusion h⟩) (by decide) (fun h => absurd rfl h)
theorem info41 : (Try.prog.info? 41).map (fun i => (i.zero, i.size, i.bytes)) = some (some (.nilFunc), 1, 8) := by kernel_rfl
theorem ti41 : TiOk Try.prog 41 { size := 1, bytes := 8, zero := [.nilFunc], kind := .cell } := tiOk_mk info41 rfl rfl rfl (by decide) (⟨_, Try.underlying41, fun _ h => TypeDesc.noConfusion h, fun _ _ h => TypeDesc.noConfusion h⟩) (by decide) (fun h => absurd rfl h)
theorem info42 : (Try.prog.info? 42).map (fun i => (i.zero, i.size, i.bytes)) = some (some (.nilFunc), 1, 8) := by kernel_rfl
theorem ti42 : TiOk Try.prog 42 { size := 1, bytes := 8, zero := [.nilFunc], kind := .cell } := tiOk_mk info42 rfl rfl rfl (by decide) (⟨_, Try.underlying42, fun _ h => TypeDesc.noConfusion h, fun _ _ h => TypeDesc.noConfusion h⟩) (by decide) (fun h => absurd rfl h)
theorem info43 : (Try.prog.info? 43).map (fun i => (i.zero, i.size, i.bytes)) = some (some (.nilFunc), 1, 8) := by kernel_rfl
theorem ti43 : TiOk Try.prog 43 { size := 1, bytes := 8, zero := [.nilFunc], kind := .cell } := tiOk_mk info43 rfl rfl rfl (by decide) (⟨_, Try.underlying43, fun _ h => TypeDesc.noConfusion h, fun _ _ h => TypeDesc.noConfusion h⟩) (by decide) (fun h => absurd rfl h)
theorem info44 : (Try.prog.info? 44).map (fun i => (i.zero, i.size, i.bytes)) = some (some (.nilFunc), 1, 8) := by kernel_rfl
theorem ti44 : TiOk Try.prog 44 { size := 1, bytes := 8, zero := [.nilFunc], kind := .cell } := tiOk_mk info44 rfl rfl rfl (by decide) (⟨_, Try.underlying44, fun _ h => TypeDesc.noConfusion h, fun _ _ h => TypeDesc.noConfusion h⟩) (by decide) (fun h => absurd rfl h)
theorem info45 : (Try.prog.info? 45).map (fun i => (i.zero, i.size, i.bytes)) = some (some (.nilFunc), 1, 8) := by kernel_rfl
theorem ti45 : TiOk Try.prog 45 { size := 1, bytes := 8, zero := [.nilFunc], kind := .cell } := tiOk_mk info45 rfl rfl rfl (by decide) (⟨_, Try.underlying45, fun _ h => TypeDesc.noConfusion h, fun _ _ h => TypeDesc.noConfusion h⟩) (by decide) (fun h => absurd rfl h)
theorem info46 : (Try.prog.info? 46).map (fun i => (i.zero, i.size, i.bytes)) = some (some (.nilFunc), 1, 8) := by kernel_rfl
theorem ti46 : TiOk Try.prog 46 { size := 1, bytes := 8, zero := [.nilFunc], kind := .cell } := tiOk_mk info46 rfl rfl rfl (by decide) (⟨_, Try.underlying46, fun _ h => TypeDesc.noConfusion h, fun _ _ h => TypeDesc.noConfusion h⟩) (by decide) (fun h => absurd rfl h)
theorem info47 : (Try.prog.info? 47).map (fun i => (i.zero, i.size, i.bytes)) = some (some (.nilFunc), 1, 8) := by kernel_rfl
theorem ti47 : TiOk Try.prog 47 { size := 1, bytes := 8, zero := [.nilFunc], kind := .cell } := tiOk_mk info47 rfl rfl rfl (by decide) (⟨_, Try.underlying47, fun _ h => TypeDesc.noConfusion h, fun _ _ h => TypeDesc.noConfusion h⟩) (by decide) (fun h => absurd rfl h)
theorem info48 : (Try.prog.info? 48).map (fun i => (i.zero, i.size, i.bytes)) = some (some (.nilFunc), 1, 8) := by kernel_rfl
theorem ti48 : TiOk Try.prog 48 { size := 1, bytes := 8, zero := [.nilFunc], kind := .cell } := tiOk_mk info48 rfl rfl rfl (by decide) (⟨_, Try.underlying48, fun _ h => TypeDesc.noConfusion h, fun _ _ h => TypeDesc.noConfusion h⟩) (by decide) (fun h => absurd rfl h)
theorem info49 : (Try.prog.info? 49).map (fun i => (i.zero, i.size, i.bytes)) = some (some (.nilFunc), 1, 8) := by kernel_rfl
theorem ti49 : TiOk Try.prog 49 { size := 1, bytes := 8, zero := [.nilFunc], kind := .cell } := tiOk_mk info49 rfl rfl rfl (by decide) (⟨_, Try.underlying49, fun _ h => TypeDesc.noConfusion h, fun _ _ h => TypeDesc.noConfusion h⟩) (by decide) (fun h => absurd rfl h)
theorem info50 : (Try.prog.info? 50).map (fun i => (i.zero, i.size, i.bytes)) = some (some (.nilFunc), 1, 8) := by kernel_rfl
theorem ti50 : TiOk Try.prog 50 { size := 1, bytes := 8, zero := [.nilFunc], kind := .cell } := tiOk_mk info50 rfl rfl rfl (by decide) (⟨_, Try.underlying50, fun _ h => TypeDesc.noConfusion h, fun _ _ h => TypeDesc.noConfusion h⟩) (by decide) (fun h => absurd rfl h)
theorem info51 : (Try.prog.info? 51).map (fun i => (i.zero, i.size, i.bytes)) = some (some (.nilFunc), 1, 8) := by kernel_rfl
theorem ti51 : TiOk Try.prog 51 { size := 1, bytes := 8, zero := [.nilFunc], kind := .cell } := tiOk_mk info51 rfl rfl rfl (by decide) (⟨_, Try.underlying51, fun _ h => TypeDesc.noConfusion h, fun _ _ h => TypeDesc.noConfusion h⟩) (by decide) (fun h => absurd rfl h)
theorem info52 : (Try.prog.info? 52).map (fun i => (i.zero, i.size, i.bytes)) = some (some (.agg #[.int .u8 0, .int .u8 0]), 2, 2) := by kernel_rfl
theorem eqs52 (w : World) (x y : Operand) (m n : List Int) (hm : m.length = 2) (hn : n.length = 2) :
    (do eqGuard .eql 52 x y (aggInts [.u8, .u8] m) (aggInts [.u8, .u8] n); binOp .eql 52 (aggInts [.u8, .u8] m) (aggInts [.u8, .u8] n) : Sem Value).run Try.prog w = .ok (.bool (decide (m = n))) w ∧
    (do eqGuard .neq 52 x y (aggInts [.u8, .u8] m) (aggInts [.u8, .u8] n); binOp .neq 52 (aggInts [.u8, .u8] m) (aggInts [.u8, .u8] n) : Sem Value).run Try.prog w = .ok (.bool (decide (m ≠ n))) w :=
  eqs_by_arr (N := 2) w x y hm hn (by kernel_rfl) Try.underlying52 Try.underlying5 (i := (Try.prog.info? 5).getD default) (by kernel_rfl) (by decide +kernel)
theorem ti52 : TiOk Try.prog 52 { size := 2, bytes := 2, zero := [.int .u8 0, .int .u8 0], kind := .array 2 5, eqk := [.u8, .u8] } := tiOk_mk info52 rfl rfl rfl (by decide) (Try.underlying52) (by decide) (fun _ => eqs52)
theorem info53 : (Try.prog.info? 53).map (fun i => (i.zero, i.size, i.bytes)) = some (some (.agg #[.int .i64 0, .int .i64 0, .int .i64 0]), 3, 24) := by kernel_rfl
theorem eqs53 (w : World) (x y : Operand) (m n : List Int) (hm : m.length = 3) (hn : n.length = 3) :
    (do eqGuard .eql 53 x y (aggInts [.i64, .i64, .i64] m) (aggInts [.i64, .i64, .i64] n); binOp .eql 53 (aggInts [.i64, .i64, .i64] m) (aggInts [.i64, .i64, .i64] n) : Sem Value).run Try.prog w = .ok (.bool (decide (m = n))) w ∧
    (do eqGuard .neq 53 x y (aggInts [.i64, .i64, .i64] m) (aggInts [.i64, .i64, .i64] n); binOp .neq 53 (aggInts [.i64, .i64, .i64] m) (aggInts [.i64, .i64, .i64] n) : Sem Value).run Try.prog w = .ok (.bool (decide (m ≠ n))) w := by
  exact eqs_by_3 w x y hm hn (by kernel_rfl) (by kernel_rfl) Try.underlying53 Try.underlying3 Try.underlying3 Try.underlying3 (by decide)
theorem ti53 : TiOk Try.prog 53 { size := 3, bytes := 24, zero := [.int .i64 0, .int .i64 0, .int .i64 0], kind := .struct [(0, 3), (1, 3), (2, 3)], eqk := [.i64, .i64, .i64] } := tiOk_mk info53 rfl rfl rfl (by decide) (⟨_, Try.underlying53, rfl⟩) (by decide) (fun _ => eqs53)
theorem info54 : (Try.prog.info? 54).map (fun i => (i.zero, i.size, i.bytes)) = some (some (.agg #[.int .i64 0, .int .i64 0, .int .i64 0]), 3, 24) := by kernel_rfl
theorem eqs54 (w : World) (x y : Operand) (m n : List Int) (hm : m.length = 3) (hn : n.length = 3) :
    (do eqGuard .eql 54 x y (aggInts [.i64, .i64, .i64] m) (aggInts [.i64, .i64, .i64] n); binOp .eql 54 (aggInts [.i64, .i64, .i64] m) (aggInts [.i64, .i64, .i64] n) : Sem Value).run Try.prog w = .ok (.bool (decide (m = n))) w ∧
    (do eqGuard .neq 54 x y (aggInts [.i64, .i64, .i64] m) (aggInts [.i64, .i64, .i64] n); binOp .neq 54 (aggInts [.i64, .i64, .i64] m) (aggInts [.i64, .i64, .i64] n) : Sem Value).run Try.prog w = .ok (.bool (decide (m ≠ n))) w := by
  exact eqs_by_3 w x y hm hn (by kernel_rfl) (by kernel_rfl) Try.underlying54 Try.underlying3 Try.underlying3 Try.underlying3 (by decide)
theorem ti54 : TiOk Try.prog 54 { size := 3, bytes := 24, zero := [.int .i64 0, .int .i64 0, .int .i64 0], kind := .struct [(0, 3), (1, 3), (2, 3)], eqk := [.i64, .i64, .i64] } := tiOk_mk info54 rfl rfl rfl (by decide) (⟨_, Try.underlying54, rfl⟩) (by decide) (fun _ => eqs54)
theorem info55 : (Try.prog.info? 55).map (fun i => (i.zero, i.size, i.bytes)) = some (some (.nilFunc), 1, 8) := by kernel_rfl
theorem ti55 : TiOk Try.prog 55 { size := 1, bytes := 8, zero := [.nilFunc], kind := .cell } := tiOk_mk info55 rfl rfl rfl (by decide) (⟨_, Try.underlying55, fun _ h => TypeDesc.noConfusion h, fun _ _ h => TypeDesc.noConfusion h⟩) (by decide) (fun h => absurd rfl h)
theorem info57 : (Try.prog.info? 57).map (fun i => (i.zero, i.size, i.bytes)) = some (some (.nilFunc), 1, 8) := by kernel_rfl
theorem ti57 : TiOk Try.prog 57 { size := 1, bytes := 8, zero := [.nilFunc], kind := .cell } := tiOk_mk info57 rfl rfl rfl (by decide) (⟨_, Try.underlying57, fun _ h => TypeDesc.noConfusion h, fun _ _ h => TypeDesc.noConfusion h⟩) (by decide) (fun h => absurd rfl h)
theorem info58 : (Try.prog.info? 58).map (fun i => (i.zero, i.size, i.bytes)) = some (some (.nilFunc), 1, 8) := by kernel_rfl
theorem ti58 : TiOk Try.prog 58 { size := 1, bytes := 8, zero := [.nilFunc], kind := .cell } := tiOk_mk info58 rfl rfl rfl (by decide) (⟨_, Try.underlying58, fun _ h => TypeDesc.noConfusion h, fun _ _ h => TypeDesc.noConfusion h⟩) (by decide) (fun h => absurd rfl h)
theorem info59 : (Try.prog.info? 59).map (fun i => (i.zero, i.size, i.bytes)) = some (some (.nilFunc), 1, 8) := by kernel_rfl
theorem ti59 : TiOk Try.prog 59 { size := 1, bytes := 8, zero := [.nilFunc], kind := .cell } := tiOk_mk info59 rfl rfl rfl (by decide) (⟨_, Try.underlying59, fun _ h => TypeDesc.noConfusion h, fun _ _ h => TypeDesc.noConfusion h⟩) (by decide) (fun h => absurd rfl h)
theorem info60 : (Try.prog.info? 60).map (fun i => (i.zero, i.size, i.bytes)) = some (some (.nilFunc), 1, 8) := by kernel_rfl
theorem ti60 : TiOk Try.prog 60 { size := 1, bytes := 8, zero := [.nilFunc], kind := .cell } := tiOk_mk info60 rfl rfl rfl (by decide) (⟨_, Try.underlying60, fun _ h => TypeDesc.noConfusion h, fun _ _ h => TypeDesc.noConfusion h⟩) (by decide) (fun h => absurd rfl h)
theorem info61 : (Try.prog.info? 61).map (fun i => (i.zero, i.size, i.bytes)) = some (some (.nilFunc), 1, 8) := by kernel_rfl
theorem ti61 : TiOk Try.prog 61 { size := 1, bytes := 8, zero := [.nilFunc], kind := .cell } := tiOk_mk info61 rfl rfl rfl (by decide) (⟨_, Try.underlying61, fun _ h => TypeDesc.noConfusion h, fun _ _ h => TypeDesc.noConfusion h⟩) (by decide) (fun h => absurd rfl h)
theorem info62 : (Try.prog.info? 62).map (fun i => (i.zero, i.size, i.bytes)) = some (some (.nilFunc), 1, 8) := by kernel_rfl
theorem ti62 : TiOk Try.prog 62 { size := 1, bytes := 8, zero := [.nilFunc], kind := .cell } := tiOk_mk info62 rfl rfl rfl (by decide) (⟨_, Try.underlying62, fun _ h => TypeDesc.noConfusion h, fun _ _ h => TypeDesc.noConfusion h⟩) (by decide) (fun h => absurd rfl h)
theorem info63 : (Try.prog.info? 63).map (fun i => (i.zero, i.size, i.bytes)) = some (some (.nilFunc), 1, 8) := by kernel_rfl
theorem ti63 : TiOk Try.prog 63 { size := 1, bytes := 8, zero := [.nilFunc], kind := .cell } := tiOk_mk info63 rfl rfl rfl (by decide) (⟨_, Try.underlying63, fun _ h => TypeDesc.noConfusion h, fun _ _ h => TypeDesc.noConfusion h⟩) (by decide) (fun h => absurd rfl h)
theorem info64 : (Try.prog.info? 64).map (fun i => (i.zero, i.size, i.bytes)) = some (some (.agg #[.slice none 0 0]), 1, 24) := by kernel_rfl
theorem ti64 : TiOk Try.prog 64 { size := 1, bytes := 24, zero := [.slice none 0 0], kind := .struct [(0, 22)] } := tiOk_mk info64 rfl rfl rfl (by decide) (⟨_, Try.underlying64, rfl⟩) (by decide) (fun h => absurd rfl h)
theorem info65 : (Try.prog.info? 65).map (fun i => (i.zero, i.size, i.bytes)) = some (some (.agg #[.slice none 0 0]), 1, 24) := by kernel_rfl
theorem ti65 : TiOk Try.prog 65 { size := 1, bytes := 24, zero := [.slice none 0 0], kind := .struct [(0, 22)] } := tiOk_mk info65 rfl rfl rfl (by decide) (⟨_, Try.underlying65, rfl⟩) (by decide) (fun h => absurd rfl h)
theorem info67 : (Try.prog.info? 67).map (fun i => (i.zero, i.size, i.bytes)) = some (some (.nilFunc), 1, 8) := by kernel_rfl
theorem ti67 : TiOk Try.prog 67 { size := 1, bytes := 8, zero := [.nilFunc], kind := .cell } := tiOk_mk info67 rfl rfl rfl (by decide) (⟨_, Try.underlying67, fun _ h => TypeDesc.noConfusion h, fun _ _ h => TypeDesc.noConfusion h⟩) (by decide) (fun h => absurd rfl h)
theorem info68 : (Try.prog.info? 68).map (fun i => (i.zero, i.size, i.bytes)) = some (some (.nilFunc), 1, 8) := by kernel_rfl
theorem ti68 : TiOk Try.prog 68 { size := 1, bytes := 8, zero := [.nilFunc], kind := .cell } := tiOk_mk info68 rfl rfl rfl (by decide) (⟨_, Try.underlying68, fun _ h => TypeDesc.noConfusion h, fun _ _ h => TypeDesc.noConfusion h⟩) (by decide) (fun h => absurd rfl h)
theorem info70 : (Try.prog.info? 70).map (fun i => (i.zero, i.size, i.bytes)) = some (some (.nilFunc), 1, 8) := by kernel_rfl
theorem ti70 : TiOk Try.prog 70 { size := 1, bytes := 8, zero := [.nilFunc], kind := .cell } := tiOk_mk info70 rfl rfl rfl (by decide) (⟨_, Try.underlying70, fun _ h => TypeDesc.noConfusion h, fun _ _ h => TypeDesc.noConfusion h⟩) (by decide) (fun h => absurd rfl h)
theorem info71 : (Try.prog.info? 71).map (fun i => (i.zero, i.size, i.bytes)) = some (some (.nilFunc), 1, 8) := by kernel_rfl
theorem ti71 : TiOk Try.prog 71 { size := 1, bytes := 8, zero := [.nilFunc], kind := .cell } := tiOk_mk info71 rfl rfl rfl (by decide) (⟨_, Try.underlying71, fun _ h => TypeDesc.noConfusion h, fun _ _ h => TypeDesc.noConfusion h⟩) (by decide) (fun h => absurd rfl h)
theorem info72 : (Try.prog.info? 72).map (fun i => (i.zero, i.size, i.bytes)) = some (some (.nilFunc), 1, 8) := by kernel_rfl
theorem ti72 : TiOk Try.prog 72 { size := 1, bytes := 8, zero := [.nilFunc], kind := .cell } := tiOk_mk info72 rfl rfl rfl (by decide) (⟨_, Try.underlying72, fun _ h => TypeDesc.noConfusion h, fun _ _ h => TypeDesc.noConfusion h⟩) (by decide) (fun h => absurd rfl h)
theorem info73 : (Try.prog.info? 73).map (fun i => (i.zero, i.size, i.bytes)) = some (some (.pointer none), 1, 8) := by kernel_rfl
theorem ti73 : TiOk Try.prog 73 { size := 1, bytes := 8, zero := [.pointer none], kind := .cell } := tiOk_mk info73 rfl rfl rfl (by decide) (⟨_, Try.underlying73, fun _ h => TypeDesc.noConfusion h, fun _ _ h => TypeDesc.noConfusion h⟩) (by decide) (fun h => absurd rfl h)
theorem info75 : (Try.prog.info? 75).map (fun i => (i.zero, i.size, i.bytes)) = some (some (.nilFunc), 1, 8) := by kernel_rfl
theorem ti75 : TiOk Try.prog 75 { size := 1, bytes := 8, zero := [.nilFunc], kind := .cell } := tiOk_mk info75 rfl rfl rfl (by decide) (⟨_, Try.underlying75, fun _ h => TypeDesc.noConfusion h, fun _ _ h => TypeDesc.noConfusion h⟩) (by decide) (fun h => absurd rfl h)
theorem info76 : (Try.prog.info? 76).map (fun i => (i.zero, i.size, i.bytes)) = some (some (.nilFunc), 1, 8) := by kernel_rfl
theorem ti76 : TiOk Try.prog 76 { size := 1, bytes := 8, zero := [.nilFunc], kind := .cell } := tiOk_mk info76 rfl rfl rfl (by decide) (⟨_, Try.underlying76, fun _ h => TypeDesc.noConfusion h, fun _ _ h => TypeDesc.noConfusion h⟩) (by decide) (fun h => absurd rfl h)
theorem info77 : (Try.prog.info? 77).map (fun i => (i.zero, i.size, i.bytes)) = some (some (.nilFunc), 1, 8) := by kernel_rfl
theorem ti77 : TiOk Try.prog 77 { size := 1, bytes := 8, zero := [.nilFunc], kind := .cell } := tiOk_mk info77 rfl rfl rfl (by decide) (⟨_, Try.underlying77, fun _ h => TypeDesc.noConfusion h, fun _ _ h => TypeDesc.noConfusion h⟩) (by decide) (fun h => absurd rfl h)
theorem info78 : (Try.prog.info? 78).map (fun i => (i.zero, i.size, i.bytes)) = some (some (.nilFunc), 1, 8) := by kernel_rfl
theorem ti78 : TiOk Try.prog 78 { size := 1, bytes := 8, zero := [.nilFunc], kind := .cell } := tiOk_mk info78 rfl rfl rfl (by decide) (⟨_, Try.underlying78, fun _ h => TypeDesc.noConfusion h, fun _ _ h => TypeDesc.noConfusion h⟩) (by decide) (fun h => absurd rfl h)
theorem info79 : (Try.prog.info? 79).map (fun i => (i.zero, i.size, i.bytes)) = some (some (.slice none 0 0), 1, 24) := by kernel_rfl
theorem ti79 : TiOk Try.prog 79 { size := 1, bytes := 24, zero := [.slice none 0 0], kind := .slice 83 } := tiOk_mk info79 rfl rfl rfl (by decide) (Try.underlying79) (by decide) (fun h => absurd rfl h)
theorem info80 : (Try.prog.info? 80).map (fun i => (i.zero, i.size, i.bytes)) = some (some (.agg #[.slice none 0 0, .slice none 0 0]), 2, 48) := by kernel_rfl
theorem ti80 : TiOk Try.prog 80 { size := 2, bytes := 48, zero := [.slice none 0 0, .slice none 0 0], kind := .struct [(0, 65), (1, 79)] } := tiOk_mk info80 rfl rfl rfl (by decide) (⟨_, Try.underlying80, rfl⟩) (by decide) (fun h => absurd rfl h)
theorem info81 : (Try.prog.info? 81).map (fun i => (i.zero, i.size, i.bytes)) = some (some (.agg #[.slice none 0 0, .slice none 0 0]), 2, 48) := by kernel_rfl
theorem ti81 : TiOk Try.prog 81 { size := 2, bytes := 48, zero := [.slice none 0 0, .slice none 0 0], kind := .struct [(0, 65), (1, 79)] } := tiOk_mk info81 rfl rfl rfl (by decide) (⟨_, Try.underlying81, rfl⟩) (by decide) (fun h => absurd rfl h)
theorem info82 : (Try.prog.info? 82).map (fun i => (i.zero, i.size, i.bytes)) = some (some (.agg #[.int .i64 0, .int .i64 0, .int .i64 0, .int .i64 0, .int .i64 0, .int .i64 0, .int .i64 0]), 7, 56) := by kernel_rfl
theorem eqs82 (w : World) (x y : Operand) (m n : List Int) (hm : m.length = 7) (hn : n.length = 7) :
    (do eqGuard .eql 82 x y (aggInts [.i64, .i64, .i64, .i64, .i64, .i64, .i64] m) (aggInts [.i64, .i64, .i64, .i64, .i64, .i64, .i64] n); binOp .eql 82 (aggInts [.i64, .i64, .i64, .i64, .i64, .i64, .i64] m) (aggInts [.i64, .i64, .i64, .i64, .i64, .i64, .i64] n) : Sem Value).run Try.prog w = .ok (.bool (decide (m = n))) w ∧
    (do eqGuard .neq 82 x y (aggInts [.i64, .i64, .i64, .i64, .i64, .i64, .i64] m) (aggInts [.i64, .i64, .i64, .i64, .i64, .i64, .i64] n); binOp .neq 82 (aggInts [.i64, .i64, .i64, .i64, .i64, .i64, .i64] m) (aggInts [.i64, .i64, .i64, .i64, .i64, .i64, .i64] n) : Sem Value).run Try.prog w = .ok (.bool (decide (m ≠ n))) w :=
  eqs_by_arr (N := 7) w x y hm hn (by kernel_rfl) Try.underlying82 Try.underlying3 (i := (Try.prog.info? 3).getD default) (by kernel_rfl) (by decide +kernel)
theorem ti82 : TiOk Try.prog 82 { size := 7, bytes := 56, zero := [.int .i64 0, .int .i64 0, .int .i64 0, .int .i64 0, .int .i64 0, .int .i64 0, .int .i64 0], kind := .array 7 3, eqk := [.i64, .i64, .i64, .i64, .i64, .i64, .i64] } := tiOk_mk info82 rfl rfl rfl (by decide) (Try.underlying82) (by decide) (fun _ => eqs82)
theorem info83 : (Try.prog.info? 83).map (fun i => (i.zero, i.size, i.bytes)) = some (some (.agg #[.int .i64 0, .int .i64 0, .int .i64 0, .int .i64 0, .int .i64 0, .int .i64 0, .int .i64 0]), 7, 56) := by kernel_rfl
theorem eqs83 (w : World) (x y : Operand) (m n : List Int) (hm : m.length = 7) (hn : n.length = 7) :
    (do eqGuard .eql 83 x y (aggInts [.i64, .i64, .i64, .i64, .i64, .i64, .i64] m) (aggInts [.i64, .i64, .i64, .i64, .i64, .i64, .i64] n); binOp .eql 83 (aggInts [.i64, .i64, .i64, .i64, .i64, .i64, .i64] m) (aggInts [.i64, .i64, .i64, .i64, .i64, .i64, .i64] n) : Sem Value).run Try.prog w = .ok (.bool (decide (m = n))) w ∧
    (do eqGuard .neq 83 x y (aggInts [.i64, .i64, .i64, .i64, .i64, .i64, .i64] m) (aggInts [.i64, .i64, .i64, .i64, .i64, .i64, .i64] n); binOp .neq 83 (aggInts [.i64, .i64, .i64, .i64, .i64, .i64, .i64] m) (aggInts [.i64, .i64, .i64, .i64, .i64, .i64, .i64] n) : Sem Value).run Try.prog w = .ok (.bool (decide (m ≠ n))) w :=
  eqs_by_arr (N := 7) w x y hm hn (by kernel_rfl) Try.underlying83 Try.underlying3 (i := (Try.prog.info? 3).getD default) (by kernel_rfl) (by decide +kernel)
theorem ti83 : TiOk Try.prog 83 { size := 7, bytes := 56, zero := [.int .i64 0, .int .i64 0, .int .i64 0, .int .i64 0, .int .i64 0, .int .i64 0, .int .i64 0], kind := .array 7 3, eqk := [.i64, .i64, .i64, .i64, .i64, .i64, .i64] } := tiOk_mk info83 rfl rfl rfl (by decide) (Try.underlying83) (by decide) (fun _ => eqs83)
theorem info84 : (Try.prog.info? 84).map (fun i => (i.zero, i.size, i.bytes)) = some (some (.nilFunc), 1, 8) := by kernel_rfl
theorem ti84 : TiOk Try.prog 84 { size := 1, bytes := 8, zero := [.nilFunc], kind := .cell } := tiOk_mk info84 rfl rfl rfl (by decide) (⟨_, Try.underlying84, fun _ h => TypeDesc.noConfusion h, fun _ _ h => TypeDesc.noConfusion h⟩) (by decide) (fun h => absurd rfl h)
theorem info85 : (Try.prog.info? 85).map (fun i => (i.zero, i.size, i.bytes)) = some (some (.nilFunc), 1, 8) := by kernel_rfl
theorem ti85 : TiOk Try.prog 85 { size := 1, bytes := 8, zero := [.nilFunc], kind := .cell } := tiOk_mk info85 rfl rfl rfl (by decide) (⟨_, Try.underlying85, fun _ h => TypeDesc.noConfusion h, fun _ _ h => TypeDesc.noConfusion h⟩) (by decide) (fun h => absurd rfl h)
theorem info87 : (Try.prog.info? 87).map (fun i => (i.zero, i.size, i.bytes)) = some (some (.nilFunc), 1, 8) := by kernel_rfl
theorem ti87 : TiOk Try.prog 87 { size := 1, bytes := 8, zero := [.nilFunc], kind := .cell } := tiOk_mk info87 rfl rfl rfl (by decide) (⟨_, Try.underlying87, fun _ h => TypeDesc.noConfusion h, fun _ _ h => TypeDesc.noConfusion h⟩) (by decide) (fun h => absurd rfl h)
theorem info88 : (Try.prog.info? 88).map (fun i => (i.zero, i.size, i.bytes)) = some (some (.nilFunc), 1, 8) := by kernel_rfl
theorem ti88 : TiOk Try.prog 88 { size := 1, bytes := 8, zero := [.nilFunc], kind := .cell } := tiOk_mk info88 rfl rfl rfl (by decide) (⟨_, Try.underlying88, fun _ h => TypeDesc.noConfusion h, fun _ _ h => TypeDesc.noConfusion h⟩) (by decide) (fun h => absurd rfl h)
theorem info89 : (Try.prog.info? 89).map (fun i => (i.zero, i.size, i.bytes)) = some (some (.nilFunc), 1, 8) := by kernel_rfl
theorem ti89 : TiOk Try.prog 89 { size := 1, bytes := 8, zero := [.nilFunc], kind := .cell } := tiOk_mk info89 rfl rfl rfl (by decide) (⟨_, Try.underlying89, fun _ h => TypeDesc.noConfusion h, fun _ _ h => TypeDesc.noConfusion h⟩) (by decide) (fun h => absurd rfl h)
theorem info90 : (Try.prog.info? 90).map (fun i => (i.zero, i.size, i.bytes)) = some (some (.nilFunc), 1, 8) := by kernel_rfl
theorem ti90 : TiOk Try.prog 90 { size := 1, bytes := 8, zero := [.nilFunc], kind := .cell } := tiOk_mk info90 rfl rfl rfl (by decide) (⟨_, Try.underlying90, fun _ h => TypeDesc.noConfusion h, fun _ _ h => TypeDesc.noConfusion h⟩) (by decide) (fun h => absurd rfl h)
theorem info91 : (Try.prog.info? 91).map (fun i => (i.zero, i.size, i.bytes)) = some (some (.nilFunc), 1, 8) := by kernel_rfl
theorem ti91 : TiOk Try.prog 91 { size := 1, bytes := 8, zero := [.nilFunc], kind := .cell } := tiOk_mk info91 rfl rfl rfl (by decide) (⟨_, Try.underlying91, fun _ h => TypeDesc.noConfusion h, fun _ _ h => TypeDesc.noConfusion h⟩) (by decide) (fun h => absurd rfl h)
theorem info92 : (Try.prog.info? 92).map (fun i => (i.zero, i.size, i.bytes)) = some (some (.nilFunc), 1, 8) := by kernel_rfl
theorem ti92 : TiOk Try.prog 92 { size := 1, bytes := 8, zero := [.nilFunc], kind := .cell } := tiOk_mk info92 rfl rfl rfl (by decide) (⟨_, Try.underlying92, fun _ h => TypeDesc.noConfusion h, fun _ _ h => TypeDesc.noConfusion h⟩) (by decide) (fun h => absurd rfl h)
theorem info93 : (Try.prog.info? 93).map (fun i => (i.zero, i.size, i.bytes)) = some (some (.nilFunc), 1, 8) := by kernel_rfl
theorem ti93 : TiOk Try.prog 93 { size := 1, bytes := 8, zero := [.nilFunc], kind := .cell } := tiOk_mk info93 rfl rfl rfl (by decide) (⟨_, Try.underlying93, fun _ h => TypeDesc.noConfusion h, fun _ _ h => TypeDesc.noConfusion h⟩) (by decide) (fun h => absurd rfl h)
theorem info95 : (Try.prog.info? 95).map (fun i => (i.zero, i.size, i.bytes)) = some (some (.nilFunc), 1, 8) := by kernel_rfl
theorem ti95 : TiOk Try.prog 95 { size := 1, bytes := 8, zero := [.nilFunc], kind := .cell } := tiOk_mk info95 rfl rfl rfl (by decide) (⟨_, Try.underlying95, fun _ h => TypeDesc.noConfusion h, fun _ _ h => TypeDesc.noConfusion h⟩) (by decide) (fun h => absurd rfl h)
theorem info96 : (Try.prog.info? 96).map (fun i => (i.zero, i.size, i.bytes)) = some (some (.nilFunc), 1, 8) := by kernel_rfl
theorem ti96 : TiOk Try.prog 96 { size := 1, bytes := 8, zero := [.nilFunc], kind := .cell } := tiOk_mk info96 rfl rfl rfl (by decide) (⟨_, Try.underlying96, fun _ h => TypeDesc.noConfusion h, fun _ _ h => TypeDesc.noConfusion h⟩) (by decide) (fun h => absurd rfl h)
theorem info97 : (Try.prog.info? 97).map (fun i => (i.zero, i.size, i.bytes)) = some (some (.nilFunc), 1, 8) := by kernel_rfl
theorem ti97 : TiOk Try.prog 97 { size := 1, bytes := 8, zero := [.nilFunc], kind := .cell } := tiOk_mk info97 rfl rfl rfl (by decide) (⟨_, Try.underlying97, fun _ h => TypeDesc.noConfusion h, fun _ _ h => TypeDesc.noConfusion h⟩) (by decide) (fun h => absurd rfl h)
theorem info98 : (Try.prog.info? 98).map (fun i => (i.zero, i.size, i.bytes)) = some (some (.nilFunc), 1, 8) := by kernel_rfl
theorem ti98 : TiOk Try.prog 98 { size := 1, bytes := 8, zero := [.nilFunc], kind := .cell } := tiOk_mk info98 rfl rfl rfl (by decide) (⟨_, Try.underlying98, fun _ h => TypeDesc.noConfusion h, fun _ _ h => TypeDesc.noConfusion h⟩) (by decide) (fun h => absurd rfl h)
theorem info99 : (Try.prog.info? 99).map (fun i => (i.zero, i.size, i.bytes)) = some (some (.slice none 0 0), 1, 24) := by kernel_rfl
theorem ti99 : TiOk Try.prog 99 { size := 1, bytes := 24, zero := [.slice none 0 0], kind := .slice 24 } := tiOk_mk info99 rfl rfl rfl (by decide) (Try.underlying99) (by decide) (fun h => absurd rfl h)
theorem info100 : (Try.prog.info? 100).map (fun i => (i.zero, i.size, i.bytes)) = some (some (.nilFunc), 1, 8) := by kernel_rfl
theorem ti100 : TiOk Try.prog 100 { size := 1, bytes := 8, zero := [.nilFunc], kind := .cell } := tiOk_mk info100 rfl rfl rfl (by decide) (⟨_, Try.underlying100, fun _ h => TypeDesc.noConfusion h, fun _ _ h => TypeDesc.noConfusion h⟩) (by decide) (fun h => absurd rfl h)
theorem info101 : (Try.prog.info? 101).map (fun i => (i.zero, i.size, i.bytes)) = some (some (.nilFunc), 1, 8) := by kernel_rfl
theorem ti101 : TiOk Try.prog 101 { size := 1, bytes := 8, zero := [.nilFunc], kind := .cell } := tiOk_mk info101 rfl rfl rfl (by decide) (⟨_, Try.underlying101, fun _ h => TypeDesc.noConfusion h, fun _ _ h => TypeDesc.noConfusion h⟩) (by decide) (fun h => absurd rfl h)
theorem info102 : (Try.prog.info? 102).map (fun i => (i.zero, i.size, i.bytes)) = some (some (.nilFunc), 1, 8) := by kernel_rfl
theorem ti102 : TiOk Try.prog 102 { size := 1, bytes := 8, zero := [.nilFunc], kind := .cell } := tiOk_mk info102 rfl rfl rfl (by decide) (⟨_, Try.underlying102, fun _ h => TypeDesc.noConfusion h, fun _ _ h => TypeDesc.noConfusion h⟩) (by decide) (fun h => absurd rfl h)
theorem info104 : (Try.prog.info? 104).map (fun i => (i.zero, i.size, i.bytes)) = some (some (.nilFunc), 1, 8) := by kernel_rfl
theorem ti104 : TiOk Try.prog 104 { size := 1, bytes := 8, zero := [.nilFunc], kind := .cell } := tiOk_mk info104 rfl rfl rfl (by decide) (⟨_, Try.underlying104, fun _ h => TypeDesc.noConfusion h, fun _ _ h => TypeDesc.noConfusion h⟩) (by decide) (fun h => absurd rfl h)
theorem info105 : (Try.prog.info? 105).map (fun i => (i.zero, i.size, i.bytes)) = some (some (.nilFunc), 1, 8) := by kernel_rfl
theorem ti105 : TiOk Try.prog 105 { size := 1, bytes := 8, zero := [.nilFunc], kind := .cell } := tiOk_mk info105 rfl rfl rfl (by decide) (⟨_, Try.underlying105, fun _ h => TypeDesc.noConfusion h, fun _ _ h => TypeDesc.noConfusion h⟩) (by decide) (fun h => absurd rfl h)
theorem info106 : (Try.prog.info? 106).map (fun i => (i.zero, i.size, i.bytes)) = some (some (.nilFunc), 1, 8) := by kernel_rfl
theorem ti106 : TiOk Try.prog 106 { size := 1, bytes := 8, zero := [.nilFunc], kind := .cell } := tiOk_mk info106 rfl rfl rfl (by decide) (⟨_, Try.underlying106, fun _ h => TypeDesc.noConfusion h, fun _ _ h => TypeDesc.noConfusion h⟩) (by decide) (fun h => absurd rfl h)
theorem info107 : (Try.prog.info? 107).map (fun i => (i.zero, i.size, i.bytes)) = some (some (.nilFunc), 1, 8) := by kernel_rfl
theorem ti107 : TiOk Try.prog 107 { size := 1, bytes := 8, zero := [.nilFunc], kind := .cell } := tiOk_mk info107 rfl rfl rfl (by decide) (⟨_, Try.underlying107, fun _ h => TypeDesc.noConfusion h, fun _ _ h => TypeDesc.noConfusion h⟩) (by decide) (fun h => absurd rfl h)
theorem info108 : (Try.prog.info? 108).map (fun i => (i.zero, i.size, i.bytes)) = some (some (.pointer none), 1, 8) := by kernel_rfl
theorem ti108 : TiOk Try.prog 108 { size := 1, bytes := 8, zero := [.pointer none], kind := .cell } := tiOk_mk info108 rfl rfl rfl (by decide) (⟨_, Try.underlying108, fun _ h => TypeDesc.noConfusion h, fun _ _ h => TypeDesc.noConfusion h⟩) (by decide) (fun h => absurd rfl h)
theorem info109 : (Try.prog.info? 109).map (fun i => (i.zero, i.size, i.bytes)) = some (some (.nilFunc), 1, 8) := by kernel_rfl
theorem ti109 : TiOk Try.prog 109 { size := 1, bytes := 8, zero := [.nilFunc], kind := .cell } := tiOk_mk info109 rfl rfl rfl (by decide) (⟨_, Try.underlying109, fun _ h => TypeDesc.noConfusion h, fun _ _ h => TypeDesc.noConfusion h⟩) (by decide) (fun h => absurd rfl h)
theorem info110 : (Try.prog.info? 110).map (fun i => (i.zero, i.size, i.bytes)) = some (some (.nilFunc), 1, 8) := by kernel_rfl
theorem ti110 : TiOk Try.prog 110 { size := 1, bytes := 8, zero := [.nilFunc], kind := .cell } := tiOk_mk info110 rfl rfl rfl (by decide) (⟨_, Try.underlying110, fun _ h => TypeDesc.noConfusion h, fun _ _ h => TypeDesc.noConfusion h⟩) (by decide) (fun h => absurd rfl h)
theorem info111 : (Try.prog.info? 111).map (fun i => (i.zero, i.size, i.bytes)) = some (some (.nilFunc), 1, 8) := by kernel_rfl
theorem ti111 : TiOk Try.prog 111 { size := 1, bytes := 8, zero := [.nilFunc], kind := .cell } := tiOk_mk info111 rfl rfl rfl (by decide) (⟨_, Try.underlying111, fun _ h => TypeDesc.noConfusion h, fun _ _ h => TypeDesc.noConfusion h⟩) (by decide) (fun h => absurd rfl h)
theorem info112 : (Try.prog.info? 112).map (fun i => (i.zero, i.size, i.bytes)) = some (some (.slice none 0 0), 1, 24) := by kernel_rfl
theorem ti112 : TiOk Try.prog 112 { size := 1, bytes := 24, zero := [.slice none 0 0], kind := .slice 22 } := tiOk_mk info112 rfl rfl rfl (by decide) (Try.underlying112) (by decide) (fun h => absurd rfl h)
theorem info113 : (Try.prog.info? 113).map (fun i => (i.zero, i.size, i.bytes)) = some (some (.agg #[.bool false, .bool false, .bool false, .bool false, .bool false, .bool false]), 6, 6) := by kernel_rfl
theorem ti113 : TiOk Try.prog 113 { size := 6, bytes := 6, zero := [.bool false, .bool false, .bool false, .bool false, .bool false, .bool false], kind := .array 6 4 } := tiOk_mk info113 rfl rfl rfl (by decide) (Try.underlying113) (by decide) (fun h => absurd rfl h)
theorem info114 : (Try.prog.info? 114).map (fun i => (i.zero, i.size, i.bytes)) = some (some (.map none), 1, 8) := by kernel_rfl
theorem ti114 : TiOk Try.prog 114 { size := 1, bytes := 8, zero := [.map none], kind := .cell } := tiOk_mk info114 rfl rfl rfl (by decide) (⟨_, Try.underlying114, fun _ h => TypeDesc.noConfusion h, fun _ _ h => TypeDesc.noConfusion h⟩) (by decide) (fun h => absurd rfl h)
theorem info115 : (Try.prog.info? 115).map (fun i => (i.zero, i.size, i.bytes)) = some (some (.nilFunc), 1, 8) := by kernel_rfl
theorem ti115 : TiOk Try.prog 115 { size := 1, bytes := 8, zero := [.nilFunc], kind := .cell } := tiOk_mk info115 rfl rfl rfl (by decide) (⟨_, Try.underlying115, fun _ h => TypeDesc.noConfusion h, fun _ _ h => TypeDesc.noConfusion h⟩) (by decide) (fun h => absurd rfl h)
theorem info116 : (Try.prog.info? 116).map (fun i => (i.zero, i.size, i.bytes)) = some (some (.nilFunc), 1, 8) := by kernel_rfl
theorem ti116 : TiOk Try.prog 116 { size := 1, bytes := 8, zero := [.nilFunc], kind := .cell } := tiOk_mk info116 rfl rfl rfl (by decide) (⟨_, Try.underlying116, fun _ h => TypeDesc.noConfusion h, fun _ _ h => TypeDesc.noConfusion h⟩) (by decide) (fun h => absurd rfl h)
theorem info117 : (Try.prog.info? 117).map (fun i => (i.zero, i.size, i.bytes)) = some (some (.nilFunc), 1, 8) := by kernel_rfl
theorem ti117 : TiOk Try.prog 117 { size := 1, bytes := 8, zero := [.nilFunc], kind := .cell } := tiOk_mk info117 rfl rfl rfl (by decide) (⟨_, Try.underlying117, fun _ h => TypeDesc.noConfusion h, fun _ _ h => TypeDesc.noConfusion h⟩) (by decide) (fun h => absurd rfl h)
theorem info118 : (Try.prog.info? 118).map (fun i => (i.zero, i.size, i.bytes)) = some (some (.nilFunc), 1, 8) := by kernel_rfl
theorem ti118 : TiOk Try.prog 118 { size := 1, bytes := 8, zero := [.nilFunc], kind := .cell } := tiOk_mk info118 rfl rfl rfl (by decide) (⟨_, Try.underlying118, fun _ h => TypeDesc.noConfusion h, fun _ _ h => TypeDesc.noConfusion h⟩) (by decide) (fun h => absurd rfl h)
theorem info119 : (Try.prog.info? 119).map (fun i => (i.zero, i.size, i.bytes)) = some (some (.nilFunc), 1, 8) := by kernel_rfl
theorem ti119 : TiOk Try.prog 119 { size := 1, bytes := 8, zero := [.nilFunc], kind := .cell } := tiOk_mk info119 rfl rfl rfl (by decide) (⟨_, Try.underlying119, fun _ h => TypeDesc.noConfusion h, fun _ _ h => TypeDesc.noConfusion h⟩) (by decide) (fun h => absurd rfl h)
theorem info120 : (Try.prog.info? 120).map (fun i => (i.zero, i.size, i.bytes)) = some (some (.nilFunc), 1, 8) := by kernel_rfl
theorem ti120 : TiOk Try.prog 120 { size := 1, bytes := 8, zero := [.nilFunc], kind := .cell } := tiOk_mk info120 rfl rfl rfl (by decide) (⟨_, Try.underlying120, fun _ h => TypeDesc.noConfusion h, fun _ _ h => TypeDesc.noConfusion h⟩) (by decide) (fun h => absurd rfl h)
theorem info121 : (Try.prog.info? 121).map (fun i => (i.zero, i.size, i.bytes)) = some (some (.nilFunc), 1, 8) := by kernel_rfl
theorem ti121 : TiOk Try.prog 121 { size := 1, bytes := 8, zero := [.nilFunc], kind := .cell } := tiOk_mk info121 rfl rfl rfl (by decide) (⟨_, Try.underlying121, fun _ h => TypeDesc.noConfusion h, fun _ _ h => TypeDesc.noConfusion h⟩) (by decide) (fun h => absurd rfl h)
theorem info122 : (Try.prog.info? 122).map (fun i => (i.zero, i.size, i.bytes)) = some (some (.nilFunc), 1, 8) := by kernel_rfl
theorem ti122 : TiOk Try.prog 122 { size := 1, bytes := 8, zero := [.nilFunc], kind := .cell } := tiOk_mk info122 rfl rfl rfl (by decide) (⟨_, Try.underlying122, fun _ h => TypeDesc.noConfusion h, fun _ _ h => TypeDesc.noConfusion h⟩) (by decide) (fun h => absurd rfl h)
theorem info123 : (Try.prog.info? 123).map (fun i => (i.zero, i.size, i.bytes)) = some (some (.nilFunc), 1, 8) := by kernel_rfl
theorem ti123 : TiOk Try.prog 123 { size := 1, bytes := 8, zero := [.nilFunc], kind := .cell } := tiOk_mk info123 rfl rfl rfl (by decide) (⟨_, Try.underlying123, fun _ h => TypeDesc.noConfusion h, fun _ _ h => TypeDesc.noConfusion h⟩) (by decide) (fun h => absurd rfl h)
theorem info129 : (Try.prog.info? 129).map (fun i => (i.zero, i.size, i.bytes)) = some (some (.nilFunc), 1, 8) := by kernel_rfl
theorem ti129 : TiOk Try.prog 129 { size := 1, bytes := 8, zero := [.nilFunc], kind := .cell } := tiOk_mk info129 rfl rfl rfl (by decide) (⟨_, Try.underlying129, fun _ h => TypeDesc.noConfusion h, fun _ _ h => TypeDesc.noConfusion h⟩) (by decide) (fun h => absurd rfl h)
theorem info130 : (Try.prog.info? 130).map (fun i => (i.zero, i.size, i.bytes)) = some (some (.int .u32 0), 1, 4) := by kernel_rfl
theorem ti130 : TiOk Try.prog 130 { size := 1, bytes := 4, zero := [.int .u32 0], kind := .int .u32 } := tiOk_mk info130 rfl rfl rfl (by decide) (Try.underlying130) (by decide) (fun h => absurd rfl h)
theorem info131 : (Try.prog.info? 131).map (fun i => (i.zero, i.size, i.bytes)) = some (some (.int .u8 0), 1, 1) := by kernel_rfl
theorem ti131 : TiOk Try.prog 131 { size := 1, bytes := 1, zero := [.int .u8 0], kind := .int .u8 } := tiOk_mk info131 rfl rfl rfl (by decide) (Try.underlying131) (by decide) (fun h => absurd rfl h)
theorem info132 : (Try.prog.info? 132).map (fun i => (i.zero, i.size, i.bytes)) = some (some (.int .u8 0), 1, 1) := by kernel_rfl
theorem ti132 : TiOk Try.prog 132 { size := 1, bytes := 1, zero := [.int .u8 0], kind := .int .u8 } := tiOk_mk info132 rfl rfl rfl (by decide) (Try.underlying132) (by decide) (fun h => absurd rfl h)
theorem info133 : (Try.prog.info? 133).map (fun i => (i.zero, i.size, i.bytes)) = some (some (.nilFunc), 1, 8) := by kernel_rfl
theorem ti133 : TiOk Try.prog 133 { size := 1, bytes := 8, zero := [.nilFunc], kind := .cell } := tiOk_mk info133 rfl rfl rfl (by decide) (⟨_, Try.underlying133, fun _ h => TypeDesc.noConfusion h, fun _ _ h => TypeDesc.noConfusion h⟩) (by decide) (fun h => absurd rfl h)
theorem info134 : (Try.prog.info? 134).map (fun i => (i.zero, i.size, i.bytes)) = some (some (.pointer none), 1, 8) := by kernel_rfl
theorem ti134 : TiOk Try.prog 134 { size := 1, bytes := 8, zero := [.pointer none], kind := .cell } := tiOk_mk info134 rfl rfl rfl (by decide) (⟨_, Try.underlying134, fun _ h => TypeDesc.noConfusion h, fun _ _ h => TypeDesc.noConfusion h⟩) (by decide) (fun h => absurd rfl h)
theorem info135 : (Try.prog.info? 135).map (fun i => (i.zero, i.size, i.bytes)) = some (some (.int .i32 0), 1, 4) := by kernel_rfl
theorem ti135 : TiOk Try.prog 135 { size := 1, bytes := 4, zero := [.int .i32 0], kind := .int .i32 } := tiOk_mk info135 rfl rfl rfl (by decide) (Try.underlying135) (by decide) (fun h => absurd rfl h)
theorem info136 : (Try.prog.info? 136).map (fun i => (i.zero, i.size, i.bytes)) = some (some (.int .i32 0), 1, 4) := by kernel_rfl
theorem ti136 : TiOk Try.prog 136 { size := 1, bytes := 4, zero := [.int .i32 0], kind := .int .i32 } := tiOk_mk info136 rfl rfl rfl (by decide) (Try.underlying136) (by decide) (fun h => absurd rfl h)
theorem info137 : (Try.prog.info? 137).map (fun i => (i.zero, i.size, i.bytes)) = some (some (.agg #[.int .u64 0, .int .u64 0, .int .u32 0, .int .u8 0, .int .u8 0, .int .u8 0, .int .u8 0, .nilFunc, .pointer none, .int .i32 0, .int .i32 0]), 11, 48) := by kernel_rfl
theorem ti137 : TiOk Try.prog 137 { size := 11, bytes := 48, zero := [.int .u64 0, .int .u64 0, .int .u32 0, .int .u8 0, .int .u8 0, .int .u8 0, .int .u8 0, .nilFunc, .pointer none, .int .i32 0, .int .i32 0], kind := .struct [(0, 12), (1, 12), (2, 130), (3, 131), (4, 5), (5, 5), (6, 132), (7, 133), (8, 134), (9, 135), (10, 136)] } := tiOk_mk info137 rfl rfl rfl (by decide) (⟨_, Try.underlying137, rfl⟩) (by decide) (fun h => absurd rfl h)
theorem info138 : (Try.prog.info? 138).map (fun i => (i.zero, i.size, i.bytes)) = some (some (.agg #[.int .u64 0, .int .u64 0, .int .u32 0, .int .u8 0, .int .u8 0, .int .u8 0, .int .u8 0, .nilFunc, .pointer none, .int .i32 0, .int .i32 0]), 11, 48) := by kernel_rfl
theorem ti138 : TiOk Try.prog 138 { size := 11, bytes := 48, zero := [.int .u64 0, .int .u64 0, .int .u32 0, .int .u8 0, .int .u8 0, .int .u8 0, .int .u8 0, .nilFunc, .pointer none, .int .i32 0, .int .i32 0], kind := .struct [(0, 12), (1, 12), (2, 130), (3, 131), (4, 5), (5, 5), (6, 132), (7, 133), (8, 134), (9, 135), (10, 136)] } := tiOk_mk info138 rfl rfl rfl (by decide) (⟨_, Try.underlying138, rfl⟩) (by decide) (fun h => absurd rfl h)
def TB : Tab
  | 1 => some { size := 1, bytes := 8, zero := [.nilFunc], kind := .cell }
  | 2 => some { size := 1, bytes := 8, zero := [.int .i64 0], kind := .int .i64 }
  | 3 => some { size := 1, bytes := 8, zero := [.int .i64 0], kind := .int .i64 }
  | 4 => some { size := 1, bytes := 1, zero := [.bool false], kind := .bool }
  | 5 => some { size := 1, bytes := 1, zero := [.int .u8 0], kind := .int .u8 }
  | 6 => some { size := 1, bytes := 1, zero := [.int .u8 0], kind := .int .u8 }
  | 7 => some { size := 4, bytes := 24, zero := [.int .i64 0, .int .i64 0, .bool false, .int .u8 0], kind := .struct [(0, 2), (1, 3), (2, 4), (3, 6)] }
  | 8 => some { size := 4, bytes := 24, zero := [.int .i64 0, .int .i64 0, .bool false, .int .u8 0], kind := .struct [(0, 2), (1, 3), (2, 4), (3, 6)] }
  | 12 => some { size := 1, bytes := 8, zero := [.int .u64 0], kind := .int .u64 }
  | 15 => some { size := 1, bytes := 8, zero := [.pointer none], kind := .cell }
  | 16 => some { size := 1, bytes := 8, zero := [.pointer none], kind := .cell }
  | 17 => some { size := 1, bytes := 8, zero := [.pointer none], kind := .cell }
  | 18 => some { size := 1, bytes := 8, zero := [.pointer none], kind := .struct [(0, 17)] }
  | 19 => some { size := 1, bytes := 8, zero := [.pointer none], kind := .struct [(0, 17)] }
  | 21 => some { size := 1, bytes := 4, zero := [.int .i32 0], kind := .int .i32 }
  | 22 => some { size := 1, bytes := 24, zero := [.slice none 0 0], kind := .slice 54 }
  | 23 => some { size := 2, bytes := 16, zero := [.int .i64 0, .int .i64 0], kind := .struct [(0, 3), (1, 3)], eqk := [.i64, .i64] }
  | 24 => some { size := 2, bytes := 16, zero := [.int .i64 0, .int .i64 0], kind := .struct [(0, 3), (1, 3)], eqk := [.i64, .i64] }
  | 25 => some { size := 1, bytes := 24, zero := [.slice none 0 0], kind := .slice 3 }
  | 26 => some { size := 1, bytes := 8, zero := [.nilFunc], kind := .cell }
  | 27 => some { size := 1, bytes := 8, zero := [.nilFunc], kind := .cell }
  | 28 => some { size := 1, bytes := 8, zero := [.int .i64 0], kind := .int .i64 }
  | 30 => some { size := 1, bytes := 8, zero := [.nilFunc], kind := .cell }
  | 31 => some { size := 1, bytes := 8, zero := [.nilFunc], kind := .cell }
  | 32 => some { size := 1, bytes := 8, zero := [.nilFunc], kind := .cell }
  | 34 => some { size := 1, bytes := 8, zero := [.nilFunc], kind := .cell }
  | 35 => some { size := 1, bytes := 8, zero := [.nilFunc], kind := .cell }
  | 36 => some { size := 1, bytes := 8, zero := [.nilFunc], kind := .cell }
  | 37 => some { size := 1, bytes := 24, zero := [.slice none 0 0], kind := .slice 25 }
  | 38 => some { size := 1, bytes := 8, zero := [.nilFunc], kind := .cell }
  | 40 => some { size := 1, bytes := 8, zero := [.nilFunc], kind := .cell }
  | 41 => some { size := 1, bytes := 8, zero := [.nilFunc], kind := .cell }
  | 42 => some { size := 1, bytes := 8, zero := [.nilFunc], kind := .cell }
  | 43 => some { size := 1, bytes := 8, zero := [.nilFunc], kind := .cell }
  | 44 => some { size := 1, bytes := 8, zero := [.nilFunc], kind := .cell }
  | 45 => some { size := 1, bytes := 8, zero := [.nilFunc], kind := .cell }
  | 46 => some { size := 1, bytes := 8, zero := [.nilFunc], kind := .cell }
  | 47 => some { size := 1, bytes := 8, zero := [.nilFunc], kind := .cell }
  | 48 => some { size := 1, bytes := 8, zero := [.nilFunc], kind := .cell }
  | 49 => some { size := 1, bytes := 8, zero := [.nilFunc], kind := .cell }
  | 50 => some { size := 1, bytes := 8, zero := [.nilFunc], kind := .cell }
  | 51 => some { size := 1, bytes := 8, zero := [.nilFunc], kind := .cell }
  | 52 => some { size := 2, bytes := 2, zero := [.int .u8 0, .int .u8 0], kind := .array 2 5, eqk := [.u8, .u8] }
  | 53 => some { size := 3, bytes := 24, zero := [.int .i64 0, .int .i64 0, .int .i64 0], kind := .struct [(0, 3), (1, 3), (2, 3)], eqk := [.i64, .i64, .i64] }
  | 54 => some { size := 3, bytes := 24, zero := [.int .i64 0, .int .i64 0, .int .i64 0], kind := .struct [(0, 3), (1, 3), (2, 3)], eqk := [.i64, .i64, .i64] }
  | 55 => some { size := 1, bytes := 8, zero := [.nilFunc], kind := .cell }
  | 57 => some { size := 1, bytes := 8, zero := [.nilFunc], kind := .cell }
  | 58 => some { size := 1, bytes := 8, zero := [.nilFunc], kind := .cell }
  | 59 => some { size := 1, bytes := 8, zero := [.nilFunc], kind := .cell }
  | 60 => some { size := 1, bytes := 8, zero := [.nilFunc], kind := .cell }
  | 61 => some { size := 1, bytes := 8, zero := [.nilFunc], kind := .cell }
  | 62 => some { size := 1, bytes := 8, zero := [.nilFunc], kind := .cell }
  | 63 => some { size := 1, bytes := 8, zero := [.nilFunc], kind := .cell }
  | 64 => some { size := 1, bytes := 24, zero := [.slice none 0 0], kind := .struct [(0, 22)] }
  | 65 => some { size := 1, bytes := 24, zero := [.slice none 0 0], kind := .struct [(0, 22)] }
  | 67 => some { size := 1, bytes := 8, zero := [.nilFunc], kind := .cell }
  | 68 => some { size := 1, bytes := 8, zero := [.nilFunc], kind := .cell }
  | 70 => some { size := 1, bytes := 8, zero := [.nilFunc], kind := .cell }
  | 71 => some { size := 1, bytes := 8, zero := [.nilFunc], kind := .cell }
  | 72 => some { size := 1, bytes := 8, zero := [.nilFunc], kind := .cell }
  | 73 => some { size := 1, bytes := 8, zero := [.pointer none], kind := .cell }
  | 75 => some { size := 1, bytes := 8, zero := [.nilFunc], kind := .cell }
  | 76 => some { size := 1, bytes := 8, zero := [.nilFunc], kind := .cell }
  | 77 => some { size := 1, bytes := 8, zero := [.nilFunc], kind := .cell }
  | 78 => some { size := 1, bytes := 8, zero := [.nilFunc], kind := .cell }
  | 79 => some { size := 1, bytes := 24, zero := [.slice none 0 0], kind := .slice 83 }
  | 80 => some { size := 2, bytes := 48, zero := [.slice none 0 0, .slice none 0 0], kind := .struct [(0, 65), (1, 79)] }
  | 81 => some { size := 2, bytes := 48, zero := [.slice none 0 0, .slice none 0 0], kind := .struct [(0, 65), (1, 79)] }
  | 82 => some { size := 7, bytes := 56, zero := [.int .i64 0, .int .i64 0, .int .i64 0, .int .i64 0, .int .i64 0, .int .i64 0, .int .i64 0], kind := .array 7 3, eqk := [.i64, .i64, .i64, .i64, .i64, .i64, .i64] }
  | 83 => some { size := 7, bytes := 56, zero := [.int .i64 0, .int .i64 0, .int .i64 0, .int .i64 0, .int .i64 0, .int .i64 0, .int .i64 0], kind := .array 7 3, eqk := [.i64, .i64, .i64, .i64, .i64, .i64, .i64] }
  | 84 => some { size := 1, bytes := 8, zero := [.nilFunc], kind := .cell }
  | 85 => some { size := 1, bytes := 8, zero := [.nilFunc], kind := .cell }
  | 87 => some { size := 1, bytes := 8, zero := [.nilFunc], kind := .cell }
  | 88 => some { size := 1, bytes := 8, zero := [.nilFunc], kind := .cell }
  | 89 => some { size := 1, bytes := 8, zero := [.nilFunc], kind := .cell }
  | 90 => some { size := 1, bytes := 8, zero := [.nilFunc], kind := .cell }
  | 91 => some { size := 1, bytes := 8, zero := [.nilFunc], kind := .cell }
  | 92 => some { size := 1, bytes := 8, zero := [.nilFunc], kind := .cell }
  | 93 => some { size := 1, bytes := 8, zero := [.nilFunc], kind := .cell }
  | 95 => some { size := 1, bytes := 8, zero := [.nilFunc], kind := .cell }
  | 96 => some { size := 1, bytes := 8, zero := [.nilFunc], kind := .cell }
  | 97 => some { size := 1, bytes := 8, zero := [.nilFunc], kind := .cell }
  | 98 => some { size := 1, bytes := 8, zero := [.nilFunc], kind := .cell }
  | 99 => some { size := 1, bytes := 24, zero := [.slice none 0 0], kind := .slice 24 }
  | 100 => some { size := 1, bytes := 8, zero := [.nilFunc], kind := .cell }
  | 101 => some { size := 1, bytes := 8, zero := [.nilFunc], kind := .cell }
  | 102 => some { size := 1, bytes := 8, zero := [.nilFunc], kind := .cell }
  | 104 => some { size := 1, bytes := 8, zero := [.nilFunc], kind := .cell }
  | 105 => some { size := 1, bytes := 8, zero := [.nilFunc], kind := .cell }
  | 106 => some { size := 1, bytes := 8, zero := [.nilFunc], kind := .cell }
  | 107 => some { size := 1, bytes := 8, zero := [.nilFunc], kind := .cell }
  | 108 => some { size := 1, bytes := 8, zero := [.pointer none], kind := .cell }
  | 109 => some { size := 1, bytes := 8, zero := [.nilFunc], kind := .cell }
  | 110 => some { size := 1, bytes := 8, zero := [.nilFunc], kind := .cell }
  | 111 => some { size := 1, bytes := 8, zero := [.nilFunc], kind := .cell }
  | 112 => some { size := 1, bytes := 24, zero := [.slice none 0 0], kind := .slice 22 }
  | 113 => some { size := 6, bytes := 6, zero := [.bool false, .bool false, .bool false, .bool false, .bool false, .bool false], kind := .array 6 4 }
  | 114 => some { size := 1, bytes := 8, zero := [.map none], kind := .cell }
  | 115 => some { size := 1, bytes := 8, zero := [.nilFunc], kind := .cell }
  | 116 => some { size := 1, bytes := 8, zero := [.nilFunc], kind := .cell }
  | 117 => some { size := 1, bytes := 8, zero := [.nilFunc], kind := .cell }
  | 118 => some { size := 1, bytes := 8, zero := [.nilFunc], kind := .cell }
  | 119 => some { size := 1, bytes := 8, zero := [.nilFunc], kind := .cell }
  | 120 => some { size := 1, bytes := 8, zero := [.nilFunc], kind := .cell }
  | 121 => some { size := 1, bytes := 8, zero := [.nilFunc], kind := .cell }
  | 122 => some { size := 1, bytes := 8, zero := [.nilFunc], kind := .cell }
  | 123 => some { size := 1, bytes := 8, zero := [.nilFunc], kind := .cell }
  | 129 => some { size := 1, bytes := 8, zero := [.nilFunc], kind := .cell }
  | 130 => some { size := 1, bytes := 4, zero := [.int .u32 0], kind := .int .u32 }
  | 131 => some { size := 1, bytes := 1, zero := [.int .u8 0], kind := .int .u8 }
  | 132 => some { size := 1, bytes := 1, zero := [.int .u8 0], kind := .int .u8 }
  | 133 => some { size := 1, bytes := 8, zero := [.nilFunc], kind := .cell }
  | 134 => some { size := 1, bytes := 8, zero := [.pointer none], kind := .cell }
  | 135 => some { size := 1, bytes := 4, zero := [.int .i32 0], kind := .int .i32 }
  | 136 => some { size := 1, bytes := 4, zero := [.int .i32 0], kind := .int .i32 }
  | 137 => some { size := 11, bytes := 48, zero := [.int .u64 0, .int .u64 0, .int .u32 0, .int .u8 0, .int .u8 0, .int .u8 0, .int .u8 0, .nilFunc, .pointer none, .int .i32 0, .int .i32 0], kind := .struct [(0, 12), (1, 12), (2, 130), (3, 131), (4, 5), (5, 5), (6, 132), (7, 133), (8, 134), (9, 135), (10, 136)] }
  | 138 => some { size := 11, bytes := 48, zero := [.int .u64 0, .int .u64 0, .int .u32 0, .int .u8 0, .int .u8 0, .int .u8 0, .int .u8 0, .nilFunc, .pointer none, .int .i32 0, .int .i32 0], kind := .struct [(0, 12), (1, 12), (2, 130), (3, 131), (4, 5), (5, 5), (6, 132), (7, 133), (8, 134), (9, 135), (10, 136)] }
  | _ => none
@[simp] theorem TB1 : TB 1 = some { size := 1, bytes := 8, zero := [.nilFunc], kind := .cell } := rfl
@[simp] theorem TB2 : TB 2 = some { size := 1, bytes := 8, zero := [.int .i64 0], kind := .int .i64 } := rfl
@[simp] theorem TB3 : TB 3 = some { size := 1, bytes := 8, zero := [.int .i64 0], kind := .int .i64 } := rfl
@[simp] theorem TB4 : TB 4 = some { size := 1, bytes := 1, zero := [.bool false], kind := .bool } := rfl
@[simp] theorem TB5 : TB 5 = some { size := 1, bytes := 1, zero := [.int .u8 0], kind := .int .u8 } := rfl
@[simp] theorem TB6 : TB 6 = some { size := 1, bytes := 1, zero := [.int .u8 0], kind := .int .u8 } := rfl
@[simp] theorem TB7 : TB 7 = some { size := 4, bytes := 24, zero := [.int .i64 0, .int .i64 0, .bool false, .int .u8 0], kind := .struct [(0, 2), (1, 3), (2, 4), (3, 6)] } := rfl
@[simp] theorem TB8 : TB 8 = some { size := 4, bytes := 24, zero := [.int .i64 0, .int .i64 0, .bool false, .int .u8 0], kind := .struct [(0, 2), (1, 3), (2, 4), (3, 6)] } := rfl
@[simp] theorem TB12 : TB 12 = some { size := 1, bytes := 8, zero := [.int .u64 0], kind := .int .u64 } := rfl
@[simp] theorem TB15 : TB 15 = some { size := 1, bytes := 8, zero := [.pointer none], kind := .cell } := rfl
@[simp] theorem TB16 : TB 16 = some { size := 1, bytes := 8, zero := [.pointer none], kind := .cell } := rfl
@[simp] theorem TB17 : TB 17 = some { size := 1, bytes := 8, zero := [.pointer none], kind := .cell } := rfl
@[simp] theorem TB18 : TB 18 = some { size := 1, bytes := 8, zero := [.pointer none], kind := .struct [(0, 17)] } := rfl
@[simp] theorem TB19 : TB 19 = some { size := 1, bytes := 8, zero := [.pointer none], kind := .struct [(0, 17)] } := rfl
@[simp] theorem TB21 : TB 21 = some { size := 1, bytes := 4, zero := [.int .i32 0], kind := .int .i32 } := rfl
@[simp] theorem TB22 : TB 22 = some { size := 1, bytes := 24, zero := [.slice none 0 0], kind := .slice 54 } := rfl
@[simp] theorem TB23 : TB 23 = some { size := 2, bytes := 16, zero := [.int .i64 0, .int .i64 0], kind := .struct [(0, 3), (1, 3)], eqk := [.i64, .i64] } := rfl
@[simp] theorem TB24 : TB 24 = some { size := 2, bytes := 16, zero := [.int .i64 0, .int .i64 0], kind := .struct [(0, 3), (1, 3)], eqk := [.i64, .i64] } := rfl
@[simp] theorem TB25 : TB 25 = some { size := 1, bytes := 24, zero := [.slice none 0 0], kind := .slice 3 } := rfl
@[simp] theorem TB26 : TB 26 = some { size := 1, bytes := 8, zero := [.nilFunc], kind := .cell } := rfl
@[simp] theorem TB27 : TB 27 = some { size := 1, bytes := 8, zero := [.nilFunc], kind := .cell } := rfl
@[simp] theorem TB28 : TB 28 = some { size := 1, bytes := 8, zero := [.int .i64 0], kind := .int .i64 } := rfl
@[simp] theorem TB30 : TB 30 = some { size := 1, bytes := 8, zero := [.nilFunc], kind := .cell } := rfl
@[simp] theorem TB31 : TB 31 = some { size := 1, bytes := 8, zero := [.nilFunc], kind := .cell } := rfl
@[simp] theorem TB32 : TB 32 = some { size := 1, bytes := 8, zero := [.nilFunc], kind := .cell } := rfl
@[simp] theorem TB34 : TB 34 = some { size := 1, bytes := 8, zero := [.nilFunc], kind := .cell } := rfl
@[simp] theorem TB35 : TB 35 = some { size := 1, bytes := 8, zero := [.nilFunc], kind := .cell } := rfl
@[simp] theorem TB36 : TB 36 = some { size := 1, bytes := 8, zero := [.nilFunc], kind := .cell } := rfl
@[simp] theorem TB37 : TB 37 = some { size := 1, bytes := 24, zero := [.slice none 0 0], kind := .slice 25 } := rfl
@[simp] theorem TB38 : TB 38 = some { size := 1, bytes := 8, zero := [.nilFunc], kind := .cell } := rfl
@[simp] theorem TB40 : TB 40 = some { size := 1, bytes := 8, zero := [.nilFunc], kind := .cell } := rfl
@[simp] theorem TB41 : TB 41 = some { size := 1, bytes := 8, zero := [.nilFunc], kind := .cell } := rfl
@[simp] theorem TB42 : TB 42 = some { size := 1, bytes := 8, zero := [.nilFunc], kind := .cell } := rfl
@[simp] theorem TB43 : TB 43 = some { size := 1, bytes := 8, zero := [.nilFunc], kind := .cell } := rfl
@[simp] theorem TB44 : TB 44 = some { size := 1, bytes := 8, zero := [.nilFunc], kind := .cell } := rfl
@[simp] theorem TB45 : TB 45 = some { size := 1, bytes := 8, zero := [.nilFunc], kind := .cell } := rfl
@[simp] theorem TB46 : TB 46 = some { size := 1, bytes := 8, zero := [.nilFunc], kind := .cell } := rfl
@[simp] theorem TB47 : TB 47 = some { size := 1, bytes := 8, zero := [.nilFunc], kind := .cell } := rfl
@[simp] theorem TB48 : TB 48 = some { size := 1, bytes := 8, zero := [.nilFunc], kind := .cell } := rfl
@[simp] theorem TB49 : TB 49 = some { size := 1, bytes := 8, zero := [.nilFunc], kind := .cell } := rfl
@[simp] theorem TB50 : TB 50 = some { size := 1, bytes := 8, zero := [.nilFunc], kind := .cell } := rfl
@[simp] theorem TB51 : TB 51 = some { size := 1, bytes := 8, zero := [.nilFunc], kind := .cell } := rfl
@[simp] theorem TB52 : TB 52 = some { size := 2, bytes := 2, zero := [.int .u8 0, .int .u8 0], kind := .array 2 5, eqk := [.u8, .u8] } := rfl
@[simp] theorem TB53 : TB 53 = some { size := 3, bytes := 24, zero := [.int .i64 0, .int .i64 0, .int .i64 0], kind := .struct [(0, 3), (1, 3), (2, 3)], eqk := [.i64, .i64, .i64] } := rfl
@[simp] theorem TB54 : TB 54 = some { size := 3, bytes := 24, zero := [.int .i64 0, .int .i64 0, .int .i64 0], kind := .struct [(0, 3), (1, 3), (2, 3)], eqk := [.i64, .i64, .i64] } := rfl
@[simp] theorem TB55 : TB 55 = some { size := 1, bytes := 8, zero := [.nilFunc], kind := .cell } := rfl
@[simp] theorem TB57 : TB 57 = some { size := 1, bytes := 8, zero := [.nilFunc], kind := .cell } := rfl
@[simp] theorem TB58 : TB 58 = some { size := 1, bytes := 8, zero := [.nilFunc], kind := .cell } := rfl
@[simp] theorem TB59 : TB 59 = some { size := 1, bytes := 8, zero := [.nilFunc], kind := .cell } := rfl
@[simp] theorem TB60 : TB 60 = some { size := 1, bytes := 8, zero := [.nilFunc], kind := .cell } := rfl
@[simp] theorem TB61 : TB 61 = some { size := 1, bytes := 8, zero := [.nilFunc], kind := .cell } := rfl
@[simp] theorem TB62 : TB 62 = some { size := 1, bytes := 8, zero := [.nilFunc], kind := .cell } := rfl
@[simp] theorem TB63 : TB 63 = some { size := 1, bytes := 8, zero := [.nilFunc], kind := .cell } := rfl
@[simp] theorem TB64 : TB 64 = some { size := 1, bytes := 24, zero := [.slice none 0 0], kind := .struct [(0, 22)] } := rfl
@[simp] theorem TB65 : TB 65 = some { size := 1, bytes := 24, zero := [.slice none 0 0], kind := .struct [(0, 22)] } := rfl
@[simp] theorem TB67 : TB 67 = some { size := 1, bytes := 8, zero := [.nilFunc], kind := .cell } := rfl
@[simp] theorem TB68 : TB 68 = some { size := 1, bytes := 8, zero := [.nilFunc], kind := .cell } := rfl
@[simp] theorem TB70 : TB 70 = some { size := 1, bytes := 8, zero := [.nilFunc], kind := .cell } := rfl
@[simp] theorem TB71 : TB 71 = some { size := 1, bytes := 8, zero := [.nilFunc], kind := .cell } := rfl
@[simp] theorem TB72 : TB 72 = some { size := 1, bytes := 8, zero := [.nilFunc], kind := .cell } := rfl
@[simp] theorem TB73 : TB 73 = some { size := 1, bytes := 8, zero := [.pointer none], kind := .cell } := rfl
@[simp] theorem TB75 : TB 75 = some { size := 1, bytes := 8, zero := [.nilFunc], kind := .cell } := rfl
@[simp] theorem TB76 : TB 76 = some { size := 1, bytes := 8, zero := [.nilFunc], kind := .cell } := rfl
@[simp] theorem TB77 : TB 77 = some { size := 1, bytes := 8, zero := [.nilFunc], kind := .cell } := rfl
@[simp] theorem TB78 : TB 78 = some { size := 1, bytes := 8, zero := [.nilFunc], kind := .cell } := rfl
@[simp] theorem TB79 : TB 79 = some { size := 1, bytes := 24, zero := [.slice none 0 0], kind := .slice 83 } := rfl
@[simp] theorem TB80 : TB 80 = some { size := 2, bytes := 48, zero := [.slice none 0 0, .slice none 0 0], kind := .struct [(0, 65), (1, 79)] } := rfl
@[simp] theorem TB81 : TB 81 = some { size := 2, bytes := 48, zero := [.slice none 0 0, .slice none 0 0], kind := .struct [(0, 65), (1, 79)] } := rfl
@[simp] theorem TB82 : TB 82 = some { size := 7, bytes := 56, zero := [.int .i64 0, .int .i64 0, .int .i64 0, .int .i64 0, .int .i64 0, .int .i64 0, .int .i64 0], kind := .array 7 3, eqk := [.i64, .i64, .i64, .i64, .i64, .i64, .i64] } := rfl
@[simp] theorem TB83 : TB 83 = some { size := 7, bytes := 56, zero := [.int .i64 0, .int .i64 0, .int .i64 0, .int .i64 0, .int .i64 0, .int .i64 0, .int .i64 0], kind := .array 7 3, eqk := [.i64, .i64, .i64, .i64, .i64, .i64, .i64] } := rfl
@[simp] theorem TB84 : TB 84 = some { size := 1, bytes := 8, zero := [.nilFunc], kind := .cell } := rfl
@[simp] theorem TB85 : TB 85 = some { size := 1, bytes := 8, zero := [.nilFunc], kind := .cell } := rfl
@[simp] theorem TB87 : TB 87 = some { size := 1, bytes := 8, zero := [.nilFunc], kind := .cell } := rfl
@[simp] theorem TB88 : TB 88 = some { size := 1, bytes := 8, zero := [.nilFunc], kind := .cell } := rfl
@[simp] theorem TB89 : TB 89 = some { size := 1, bytes := 8, zero := [.nilFunc], kind := .cell } := rfl
@[simp] theorem TB90 : TB 90 = some { size := 1, bytes := 8, zero := [.nilFunc], kind := .cell } := rfl
@[simp] theorem TB91 : TB 91 = some { size := 1, bytes := 8, zero := [.nilFunc], kind := .cell } := rfl
@[simp] theorem TB92 : TB 92 = some { size := 1, bytes := 8, zero := [.nilFunc], kind := .cell } := rfl
@[simp] theorem TB93 : TB 93 = some { size := 1, bytes := 8, zero := [.nilFunc], kind := .cell } := rfl
@[simp] theorem TB95 : TB 95 = some { size := 1, bytes := 8, zero := [.nilFunc], kind := .cell } := rfl
@[simp] theorem TB96 : TB 96 = some { size := 1, bytes := 8, zero := [.nilFunc], kind := .cell } := rfl
@[simp] theorem TB97 : TB 97 = some { size := 1, bytes := 8, zero := [.nilFunc], kind := .cell } := rfl
@[simp] theorem TB98 : TB 98 = some { size := 1, bytes := 8, zero := [.nilFunc], kind := .cell } := rfl
@[simp] theorem TB99 : TB 99 = some { size := 1, bytes := 24, zero := [.slice none 0 0], kind := .slice 24 } := rfl
@[simp] theorem TB100 : TB 100 = some { size := 1, bytes := 8, zero := [.nilFunc], kind := .cell } := rfl
@[simp] theorem TB101 : TB 101 = some { size := 1, bytes := 8, zero := [.nilFunc], kind := .cell } := rfl
@[simp] theorem TB102 : TB 102 = some { size := 1, bytes := 8, zero := [.nilFunc], kind := .cell } := rfl
@[simp] theorem TB104 : TB 104 = some { size := 1, bytes := 8, zero := [.nilFunc], kind := .cell } := rfl
@[simp] theorem TB105 : TB 105 = some { size := 1, bytes := 8, zero := [.nilFunc], kind := .cell } := rfl
@[simp] theorem TB106 : TB 106 = some { size := 1, bytes := 8, zero := [.nilFunc], kind := .cell } := rfl
@[simp] theorem TB107 : TB 107 = some { size := 1, bytes := 8, zero := [.nilFunc], kind := .cell } := rfl
@[simp] theorem TB108 : TB 108 = some { size := 1, bytes := 8, zero := [.pointer none], kind := .cell } := rfl
@[simp] theorem TB109 : TB 109 = some { size := 1, bytes := 8, zero := [.nilFunc], kind := .cell } := rfl
@[simp] theorem TB110 : TB 110 = some { size := 1, bytes := 8, zero := [.nilFunc], kind := .cell } := rfl
@[simp] theorem TB111 : TB 111 = some { size := 1, bytes := 8, zero := [.nilFunc], kind := .cell } := rfl
@[simp] theorem TB112 : TB 112 = some { size := 1, bytes := 24, zero := [.slice none 0 0], kind := .slice 22 } := rfl
@[simp] theorem TB113 : TB 113 = some { size := 6, bytes := 6, zero := [.bool false, .bool false, .bool false, .bool false, .bool false, .bool false], kind := .array 6 4 } := rfl
@[simp] theorem TB114 : TB 114 = some { size := 1, bytes := 8, zero := [.map none], kind := .cell } := rfl
@[simp] theorem TB115 : TB 115 = some { size := 1, bytes := 8, zero := [.nilFunc], kind := .cell } := rfl
@[simp] theorem TB116 : TB 116 = some { size := 1, bytes := 8, zero := [.nilFunc], kind := .cell } := rfl
@[simp] theorem TB117 : TB 117 = some { size := 1, bytes := 8, zero := [.nilFunc], kind := .cell } := rfl
@[simp] theorem TB118 : TB 118 = some { size := 1, bytes := 8, zero := [.nilFunc], kind := .cell } := rfl
@[simp] theorem TB119 : TB 119 = some { size := 1, bytes := 8, zero := [.nilFunc], kind := .cell } := rfl
@[simp] theorem TB120 : TB 120 = some { size := 1, bytes := 8, zero := [.nilFunc], kind := .cell } := rfl
@[simp] theorem TB121 : TB 121 = some { size := 1, bytes := 8, zero := [.nilFunc], kind := .cell } := rfl
@[simp] theorem TB122 : TB 122 = some { size := 1, bytes := 8, zero := [.nilFunc], kind := .cell } := rfl
@[simp] theorem TB123 : TB 123 = some { size := 1, bytes := 8, zero := [.nilFunc], kind := .cell } := rfl
@[simp] theorem TB129 : TB 129 = some { size := 1, bytes := 8, zero := [.nilFunc], kind := .cell } := rfl
@[simp] theorem TB130 : TB 130 = some { size := 1, bytes := 4, zero := [.int .u32 0], kind := .int .u32 } := rfl
@[simp] theorem TB131 : TB 131 = some { size := 1, bytes := 1, zero := [.int .u8 0], kind := .int .u8 } := rfl
@[simp] theorem TB132 : TB 132 = some { size := 1, bytes := 1, zero := [.int .u8 0], kind := .int .u8 } := rfl
@[simp] theorem TB133 : TB 133 = some { size := 1, bytes := 8, zero := [.nilFunc], kind := .cell } := rfl
@[simp] theorem TB134 : TB 134 = some { size := 1, bytes := 8, zero := [.pointer none], kind := .cell } := rfl
@[simp] theorem TB135 : TB 135 = some { size := 1, bytes := 4, zero := [.int .i32 0], kind := .int .i32 } := rfl
@[simp] theorem TB136 : TB 136 = some { size := 1, bytes := 4, zero := [.int .i32 0], kind := .int .i32 } := rfl
@[simp] theorem TB137 : TB 137 = some { size := 11, bytes := 48, zero := [.int .u64 0, .int .u64 0, .int .u32 0, .int .u8 0, .int .u8 0, .int .u8 0, .int .u8 0, .nilFunc, .pointer none, .int .i32 0, .int .i32 0], kind := .struct [(0, 12), (1, 12), (2, 130), (3, 131), (4, 5), (5, 5), (6, 132), (7, 133), (8, 134), (9, 135), (10, 136)] } := rfl
@[simp] theorem TB138 : TB 138 = some { size := 11, bytes := 48, zero := [.int .u64 0, .int .u64 0, .int .u32 0, .int .u8 0, .int .u8 0, .int .u8 0, .int .u8 0, .nilFunc, .pointer none, .int .i32 0, .int .i32 0], kind := .struct [(0, 12), (1, 12), (2, 130), (3, 131), (4, 5), (5, 5), (6, 132), (7, 133), (8, 134), (9, 135), (10, 136)] } := rfl
set_option maxRecDepth 20000 in
set_option maxHeartbeats 4000000 in
theorem tabOk : TabOk Try.prog TB := by
  intro t i h
  unfold TB at h
  split at h <;> first
    | (cases h; exact ti1)
    | (cases h; exact ti2)
    | (cases h; exact ti3)
    | (cases h; exact ti4)
    | (cases h; exact ti5)
    | (cases h; exact ti6)
    | (cases h; exact ti7)
    | (cases h; exact ti8)
    | (cases h; exact ti12)
    | (cases h; exact ti15)
    | (cases h; exact ti16)
    | (cases h; exact ti17)
    | (cases h; exact ti18)
    | (cases h; exact ti19)
    | (cases h; exact ti21)
    | (cases h; exact ti22)
    | (cases h; exact ti23)
    | (cases h; exact ti24)
    | (cases h; exact ti25)
    | (cases h; exact ti26)
    | (cases h; exact ti27)
    | (cases h; exact ti28)
    | (cases h; exact ti30)
    | (cases h; exact ti31)
    | (cases h; exact ti32)
    | (cases h; exact ti34)
    | (cases h; exact ti35)
    | (cases h; exact ti36)
    | (cases h; exact ti37)
    | (cases h; exact ti38)
    | (cases h; exact ti40)
    | (cases h; exact ti41)
    | (cases h; exact ti42)
    | (cases h; exact ti43)
    | (cases h; exact ti44)
    | (cases h; exact ti45)
    | (cases h; exact ti46)
    | (cases h; exact ti47)
    | (cases h; exact ti48)
    | (cases h; exact ti49)
    | (cases h; exact ti50)
    | (cases h; exact ti51)
    | (cases h; exact ti52)
    | (cases h; exact ti53)
    | (cases h; exact ti54)
    | (cases h; exact ti55)
    | (cases h; exact ti57)
    | (cases h; exact ti58)
    | (cases h; exact ti59)
    | (cases h; exact ti60)
    | (cases h; exact ti61)
    | (cases h; exact ti62)
    | (cases h; exact ti63)
    | (cases h; exact ti64)
    | (cases h; exact ti65)
    | (cases h; exact ti67)
    | (cases h; exact ti68)
    | (cases h; exact ti70)
    | (cases h; exact ti71)
    | (cases h; exact ti72)
    | (cases h; exact ti73)
    | (cases h; exact ti75)
    | (cases h; exact ti76)
    | (cases h; exact ti77)
    | (cases h; exact ti78)
    | (cases h; exact ti79)
    | (cases h; exact ti80)
    | (cases h; exact ti81)
    | (cases h; exact ti82)
    | (cases h; exact ti83)
    | (cases h; exact ti84)
    | (cases h; exact ti85)
    | (cases h; exact ti87)
    | (cases h; exact ti88)
    | (cases h; exact ti89)
    | (cases h; exact ti90)
    | (cases h; exact ti91)
    | (cases h; exact ti92)
    | (cases h; exact ti93)
    | (cases h; exact ti95)
    | (cases h; exact ti96)
    | (cases h; exact ti97)
    | (cases h; exact ti98)
    | (cases h; exact ti99)
    | (cases h; exact ti100)
    | (cases h; exact ti101)
    | (cases h; exact ti102)
    | (cases h; exact ti104)
    | (cases h; exact ti105)
    | (cases h; exact ti106)
    | (cases h; exact ti107)
    | (cases h; exact ti108)
    | (cases h; exact ti109)
    | (cases h; exact ti110)
    | (cases h; exact ti111)
    | (cases h; exact ti112)
    | (cases h; exact ti113)
    | (cases h; exact ti114)
    | (cases h; exact ti115)
    | (cases h; exact ti116)
    | (cases h; exact ti117)
    | (cases h; exact ti118)
    | (cases h; exact ti119)
    | (cases h; exact ti120)
    | (cases h; exact ti121)
    | (cases h; exact ti122)
    | (cases h; exact ti123)
    | (cases h; exact ti129)
    | (cases h; exact ti130)
    | (cases h; exact ti131)
    | (cases h; exact ti132)
    | (cases h; exact ti133)
    | (cases h; exact ti134)
    | (cases h; exact ti135)
    | (cases h; exact ti136)
    | (cases h; exact ti137)
    | (cases h; exact ti138)
    | cases h
end Go.Proofs.Ytcmkkgdjhjpldaa.Eng

namespace Go.Proofs.Ytcmkkgdjhjpldaa.Eng
open Go.RowKit
theorem zq0 : Try.prog.follows .mixedOrders = true := by kernel_rfl
section
variable {P : Program} {tp : Bool} {ns : Nat}
theorem zq1 {x y : Code} {n : Nat} {s : St} {Q : Post} (h : ∀ k : KK P tp ns y Q, AWp P tp ns x n s (thenP k.K Q)) : AWp P tp ns (.seq x y) n s Q := AWp.seqK h
theorem zq2 {id n : Nat} {c : Code} {s : St} {Q : Post} (h : ∀ b : BB id Q, AWp P tp ns c n s b.B) : AWp P tp ns (.block id c) n s Q := AWp.blockK h
theorem zq3 {y : Code} {Q : Post} {k : KK P tp ns y Q} {n : Nat} {s : St} (h : AWp P tp ns y n s Q) : k.K n s := KK.go h
theorem zq5 {c : Operand} {x y : Code} {n : Nat} {s : St} {Q : Post} (h : ∀ (kx : KK P tp ns x Q) (ky : KK P tp ns y Q), CondG (opd ns s c) (kx.K n s) (ky.K n s)) : AWp P tp ns (.cond c x y) n s Q := AWp.condK h
theorem zq7 {id : Nat} {Q : Post} {b : BB id Q} {e : Exit} {n : Nat} {s : St} (h : blockP id Q e n s) : b.B e n s := BB.go h
end
theorem zq4 {tp : Bool} {ns id n : Nat} {l : List Oper} {s : St} {Q : Post} (h : Exec0 Try.prog tp TB l.toArray ns n l s (fun s' => Q .normal (n + l.length) s')) : AWp Try.prog tp ns (.region id l.toArray false) n s Q := AWp.reg tabOk h
theorem zq6 {tp : Bool} {ns id n : Nat} {l : List Oper} {s : St} {Q : Post} (h : Exec Try.prog TB l.toArray ns n l s [] (fun s' log => okLog l log = true ∧ Q .normal (n + l.length) s')) (hB : backB l.toArray = true := by kernel_rfl) : AWp Try.prog tp ns (.region id l.toArray true) n s Q := AWp.draws tabOk zq0 hB h
theorem zq8 {l : List Oper} {log : List Foot} {q : Prop} (h : q) (hl : okLog l log = true := by kernel_rfl) : okLog l log = true ∧ q := ⟨hl, h⟩
end Go.Proofs.Ytcmkkgdjhjpldaa.Eng

namespace Go.Proofs.Ytcmkkgdjhjpldaa.Eng
open Go.RowKit
structure HS where
  grit : Int
  cut : Int
  burr : Int
structure HE where
  depth : Int
  burr : Int
deriving DecidableEq
abbrev hsRow (t : HS) : List Dat := [iD t.grit, iD t.cut, iD t.burr]
def hsRows (l : List HS) : List (List Dat) := l.map hsRow
@[simp] theorem hsRows_len (l : List HS) : (hsRows l).length = l.length := List.length_map _
@[simp] theorem hsRows_get (l : List HS) (i : Nat) : (hsRows l)[i]? = (l[i]?).map hsRow := List.getElem?_map
abbrev heRow (t : HE) : List Dat := [iD t.depth, iD t.burr]
def heRows (l : List HE) : List (List Dat) := l.map heRow
@[simp] theorem heRows_len (l : List HE) : (heRows l).length = l.length := List.length_map _
@[simp] theorem heRows_get (l : List HE) (i : Nat) : (heRows l)[i]? = (l[i]?).map heRow := List.getElem?_map
abbrev boxD (l : List HS) : Dat := .list (hsRows l)
abbrev stnD (t : HS) : Dat := .agg [iD t.grit, iD t.cut, iD t.burr]
abbrev edgD (t : HE) : Dat := .agg [iD t.depth, iD t.burr]
def inK (n lo hi : Int) : Bool := decide (lo ≤ n ∧ n ≤ hi)
def fromK (lo hi : Int) (l : List Int) : Bool := l.all fun x => inK x lo hi
theorem allK_take {α : Type} {l : List α} {k : Nat} {x : α} (h : l[k]? = some x) (p : α → Bool) : (l.take (k + 1)).all p = ((l.take k).all p && p x) := by
  obtain ⟨hk, rfl⟩ := List.getElem?_eq_some_iff.1 h
  rw [List.take_succ_eq_append_getElem hk, List.all_append]
  simp
theorem allK_not {α : Type} {l : List α} {k : Nat} {x : α} (h : l[k]? = some x) {p : α → Bool} (hp : p x = false) : l.all p = false := by
  rw [List.all_eq_false]
  exact ⟨x, List.mem_of_getElem? h, by simp [hp]⟩
theorem fromK_mem {lo hi : Int} {l : List Int} (h : fromK lo hi l = true) {k : Nat} {x : Int} (hx : l[k]? = some x) : lo ≤ x ∧ x ≤ hi := by
  have := List.all_eq_true.1 h x (List.mem_of_getElem? hx)
  simpa [inK] using this
set_option maxRecDepth 100000 in
set_option maxHeartbeats 4000000 in
theorem areFrom_c (lo hi : Int) (l : List Int) (hl : l.length ≤ 1000000) : ACall Try.prog 50 [iD lo, iD hi, intL l] (bD (fromK lo hi l)) := by
  obtain ⟨r, hr⟩ : ∃ r, r = fromK lo hi l := ⟨_, rfl⟩
  rw [← hr]
  refine acallK tabOk Try.func50 rfl rfl (show 3 ≤ _ by decide) rfl fun _ => ?_; simp only [Try.ntmps50]
  repeat (first | (with_reducible first | refine zq1 fun _ => ?_ | refine zq2 fun _ => ?_ | refine zq3 ?_) | ((first | refine zq4 ?_ | refine zq5 fun _ _ => ?_ | refine zq6 ?_); simp [-getElem?_pos, z0, z1, z2, ]) | ((first | refine AWp.ret ?_ | refine AWp.skip ?_ | refine AWp.exit ?_); try simp only [thenP]) | (with_reducible refine zq7 ?_; simp only [blockP, thenP, reduceIte]) | with_reducible refine zq8 ?_)
  refine AWp.loopK (ι := { k : Nat // k ≤ l.length ∧ fromK lo hi (l.take k) = true }) (n := 0) (fun k => [(0, .d (iD lo)), (1, .d (iD hi)), (9, .d (intL l)), (10, .d (iD l.length)), (11, .d (iD k.1))]) (fun _ => []) (fun k => l.length - k.1) ⟨0, Nat.zero_le _, by simp [fromK]⟩ [] ?_ ?_
  · refine ⟨by rfl, by simp [], by simp [or_imp, forall_and, ] <;> (try (intro _hne; simp [_hne])), by decide⟩
  rintro ⟨k, hk, hall⟩ kk
  have w1 : IntKind.i64.wrap ((k : Int) + 1) = (k : Int) + 1 := wrap64_in (by omega)
  by_cases hlt : k < l.length
  · obtain ⟨x, hx⟩ : ∃ x, l[k]? = some x := ⟨_, List.getElem?_eq_getElem hlt⟩
    by_cases g : x < lo
    · have hr' : r = false := by rw [hr]; exact allK_not hx (p := fun x => inK x lo hi) (decide_eq_false fun h => by omega)
      repeat (first | (with_reducible first | refine zq1 fun _ => ?_ | refine zq2 fun _ => ?_ | refine zq3 ?_) | ((first | refine zq4 ?_ | refine zq5 fun _ _ => ?_ | refine zq6 ?_); simp [-getElem?_pos, z0, z1, z2, hlt, hx, g]) | ((first | refine AWp.ret ?_ | refine AWp.skip ?_ | refine AWp.exit ?_); try simp only [thenP]) | (with_reducible refine zq7 ?_; simp only [blockP, thenP, reduceIte]) | with_reducible refine zq8 ?_)
      (first | refine RR.ret ?_ | refine RR.normal ?_); simp [hr']
    by_cases g2 : hi < x
    · have hr' : r = false := by rw [hr]; exact allK_not hx (p := fun x => inK x lo hi) (decide_eq_false fun h => by omega)
      repeat (first | (with_reducible first | refine zq1 fun _ => ?_ | refine zq2 fun _ => ?_ | refine zq3 ?_) | ((first | refine zq4 ?_ | refine zq5 fun _ _ => ?_ | refine zq6 ?_); simp [-getElem?_pos, z0, z1, z2, hlt, hx, g, g2]) | ((first | refine AWp.ret ?_ | refine AWp.skip ?_ | refine AWp.exit ?_); try simp only [thenP]) | (with_reducible refine zq7 ?_; simp only [blockP, thenP, reduceIte]) | with_reducible refine zq8 ?_)
      (first | refine RR.ret ?_ | refine RR.normal ?_); simp [hr']
    · have hall2 : fromK lo hi (l.take (k + 1)) = true := by
        unfold fromK at hall ⊢
        rw [allK_take hx, hall, Bool.true_and]
        exact decide_eq_true ⟨by omega, by omega⟩
      repeat (first | (with_reducible first | refine zq1 fun _ => ?_ | refine zq2 fun _ => ?_ | refine zq3 ?_) | ((first | refine zq4 ?_ | refine zq5 fun _ _ => ?_ | refine zq6 ?_); simp [-getElem?_pos, z0, z1, z2, hlt, hx, g, g2, w1]) | ((first | refine AWp.ret ?_ | refine AWp.skip ?_ | refine AWp.exit ?_); try simp only [thenP]) | (with_reducible refine zq7 ?_; simp only [blockP, thenP, reduceIte]) | with_reducible refine zq8 ?_)
      refine LL.go ⟨k + 1, hlt, hall2⟩ [] ⟨by rfl, by simp [], by simp [or_imp, forall_and, ] <;> (try (intro _hne; simp [_hne])), by decide⟩ ?_
      simp; omega
  · obtain rfl : k = l.length := by omega
    rw [List.take_of_length_le (Nat.le_refl _)] at hall
    have hr' : r = true := hr.trans hall
    repeat (first | (with_reducible first | refine zq1 fun _ => ?_ | refine zq2 fun _ => ?_ | refine zq3 ?_) | ((first | refine zq4 ?_ | refine zq5 fun _ _ => ?_ | refine zq6 ?_); simp [-getElem?_pos, z0, z1, z2, hlt]) | ((first | refine AWp.ret ?_ | refine AWp.skip ?_ | refine AWp.exit ?_); try simp only [thenP]) | (with_reducible refine zq7 ?_; simp only [blockP, thenP, reduceIte]) | with_reducible refine zq8 ?_)
    (first | refine RR.ret ?_ | refine RR.normal ?_); simp [hr']
def okS (t : HS) : Bool := fromK 0 100 [t.grit, t.cut] && fromK (-6) 6 [t.burr]
def okE (t : HE) : Bool := fromK 0 100 [t.depth] && fromK 0 6 [t.burr]
theorem okS_eq (t : HS) : okS t = decide ((0 ≤ t.grit ∧ t.grit ≤ 100) ∧ (0 ≤ t.cut ∧ t.cut ≤ 100) ∧ -6 ≤ t.burr ∧ t.burr ≤ 6) := by
  simp only [okS, fromK, inK, List.all_cons, List.all_nil, Bool.and_true]
  rw [Bool.eq_iff_iff]
  simp
  omega
theorem okE_eq (t : HE) : okE t = decide ((0 ≤ t.depth ∧ t.depth ≤ 100) ∧ 0 ≤ t.burr ∧ t.burr ≤ 6) := by
  simp only [okE, fromK, inK, List.all_cons, List.all_nil, Bool.and_true]
  rw [Bool.eq_iff_iff]
  simp
set_option maxRecDepth 100000 in
set_option maxHeartbeats 4000000 in
theorem isStone_c (t : HS) : ACall Try.prog 54 [stnD t] (bD (okS t)) := by
  have c1 : ACall Try.prog 50 [iD 0, iD 100, .list [[iD t.grit], [iD t.cut]]] (bD (fromK 0 100 [t.grit, t.cut])) := areFrom_c 0 100 [t.grit, t.cut] (by simp)
  have c2 : ACall Try.prog 50 [iD (-6), iD 6, .list [[iD t.burr]]] (bD (fromK (-6) 6 [t.burr])) := areFrom_c (-6) 6 [t.burr] (by simp)
  obtain ⟨r, hr⟩ : ∃ r, r = okS t := ⟨_, rfl⟩
  rw [← hr]
  unfold okS at hr
  rcases g1 : fromK 0 100 [t.grit, t.cut] <;> rw [g1] at c1 hr
  · refine acallK tabOk Try.func54 rfl rfl (show 1 ≤ _ by decide) rfl fun _ => ?_; simp only [Try.ntmps54]
    repeat (first | (with_reducible first | refine zq1 fun _ => ?_ | refine zq2 fun _ => ?_ | refine zq3 ?_) | ((first | refine zq4 ?_ | refine zq5 fun _ _ => ?_ | refine zq6 ?_); simp [-getElem?_pos, z0, z1, z2, ]) | ((first | refine AWp.ret ?_ | refine AWp.skip ?_ | refine AWp.exit ?_); try simp only [thenP]) | (with_reducible refine zq7 ?_; simp only [blockP, thenP, reduceIte]) | with_reducible refine zq8 ?_)
    (first | refine Exec0.call [6] c1 ?_ rfl ?_ ?_ | refine Exec.call [6] c1 ?_ rfl ?_ ?_); (focus simp [-getElem?_pos, ]); (focus simp [-getElem?_pos, z0, z1, z2, ]); simp [-getElem?_pos, z0, z1, z2, ]
    repeat (first | (with_reducible first | refine zq1 fun _ => ?_ | refine zq2 fun _ => ?_ | refine zq3 ?_) | ((first | refine zq4 ?_ | refine zq5 fun _ _ => ?_ | refine zq6 ?_); simp [-getElem?_pos, z0, z1, z2, ]) | ((first | refine AWp.ret ?_ | refine AWp.skip ?_ | refine AWp.exit ?_); try simp only [thenP]) | (with_reducible refine zq7 ?_; simp only [blockP, thenP, reduceIte]) | with_reducible refine zq8 ?_)
    (first | refine RR.ret ?_ | refine RR.normal ?_); simp [hr]
  · refine acallK tabOk Try.func54 rfl rfl (show 1 ≤ _ by decide) rfl fun _ => ?_; simp only [Try.ntmps54]
    repeat (first | (with_reducible first | refine zq1 fun _ => ?_ | refine zq2 fun _ => ?_ | refine zq3 ?_) | ((first | refine zq4 ?_ | refine zq5 fun _ _ => ?_ | refine zq6 ?_); simp [-getElem?_pos, z0, z1, z2, ]) | ((first | refine AWp.ret ?_ | refine AWp.skip ?_ | refine AWp.exit ?_); try simp only [thenP]) | (with_reducible refine zq7 ?_; simp only [blockP, thenP, reduceIte]) | with_reducible refine zq8 ?_)
    (first | refine Exec0.call [6] c1 ?_ rfl ?_ ?_ | refine Exec.call [6] c1 ?_ rfl ?_ ?_); (focus simp [-getElem?_pos, ]); (focus simp [-getElem?_pos, z0, z1, z2, ]); simp [-getElem?_pos, z0, z1, z2, ]
    repeat (first | (with_reducible first | refine zq1 fun _ => ?_ | refine zq2 fun _ => ?_ | refine zq3 ?_) | ((first | refine zq4 ?_ | refine zq5 fun _ _ => ?_ | refine zq6 ?_); simp [-getElem?_pos, z0, z1, z2, ]) | ((first | refine AWp.ret ?_ | refine AWp.skip ?_ | refine AWp.exit ?_); try simp only [thenP]) | (with_reducible refine zq7 ?_; simp only [blockP, thenP, reduceIte]) | with_reducible refine zq8 ?_)
    (first | refine Exec0.call [11] c2 ?_ rfl ?_ ?_ | refine Exec.call [11] c2 ?_ rfl ?_ ?_); (focus simp [-getElem?_pos, ]); (focus simp [-getElem?_pos, z0, z1, z2, ]); simp [-getElem?_pos, z0, z1, z2, ]
    repeat (first | (with_reducible first | refine zq1 fun _ => ?_ | refine zq2 fun _ => ?_ | refine zq3 ?_) | ((first | refine zq4 ?_ | refine zq5 fun _ _ => ?_ | refine zq6 ?_); simp [-getElem?_pos, z0, z1, z2, ]) | ((first | refine AWp.ret ?_ | refine AWp.skip ?_ | refine AWp.exit ?_); try simp only [thenP]) | (with_reducible refine zq7 ?_; simp only [blockP, thenP, reduceIte]) | with_reducible refine zq8 ?_)
    (first | refine RR.ret ?_ | refine RR.normal ?_); simp [hr]
set_option maxRecDepth 100000 in
set_option maxHeartbeats 4000000 in
theorem isEdge_c (t : HE) : ACall Try.prog 74 [edgD t] (bD (okE t)) := by
  have c1 : ACall Try.prog 50 [iD 0, iD 100, .list [[iD t.depth]]] (bD (fromK 0 100 [t.depth])) := areFrom_c 0 100 [t.depth] (by simp)
  have c2 : ACall Try.prog 50 [iD 0, iD 6, .list [[iD t.burr]]] (bD (fromK 0 6 [t.burr])) := areFrom_c 0 6 [t.burr] (by simp)
  obtain ⟨r, hr⟩ : ∃ r, r = okE t := ⟨_, rfl⟩
  rw [← hr]
  unfold okE at hr
  rcases g1 : fromK 0 100 [t.depth] <;> rw [g1] at c1 hr
  · refine acallK tabOk Try.func74 rfl rfl (show 1 ≤ _ by decide) rfl fun _ => ?_; simp only [Try.ntmps74]
    repeat (first | (with_reducible first | refine zq1 fun _ => ?_ | refine zq2 fun _ => ?_ | refine zq3 ?_) | ((first | refine zq4 ?_ | refine zq5 fun _ _ => ?_ | refine zq6 ?_); simp [-getElem?_pos, z0, z1, z2, ]) | ((first | refine AWp.ret ?_ | refine AWp.skip ?_ | refine AWp.exit ?_); try simp only [thenP]) | (with_reducible refine zq7 ?_; simp only [blockP, thenP, reduceIte]) | with_reducible refine zq8 ?_)
    (first | refine Exec0.call [4] c1 ?_ rfl ?_ ?_ | refine Exec.call [4] c1 ?_ rfl ?_ ?_); (focus simp [-getElem?_pos, ]); (focus simp [-getElem?_pos, z0, z1, z2, ]); simp [-getElem?_pos, z0, z1, z2, ]
    repeat (first | (with_reducible first | refine zq1 fun _ => ?_ | refine zq2 fun _ => ?_ | refine zq3 ?_) | ((first | refine zq4 ?_ | refine zq5 fun _ _ => ?_ | refine zq6 ?_); simp [-getElem?_pos, z0, z1, z2, ]) | ((first | refine AWp.ret ?_ | refine AWp.skip ?_ | refine AWp.exit ?_); try simp only [thenP]) | (with_reducible refine zq7 ?_; simp only [blockP, thenP, reduceIte]) | with_reducible refine zq8 ?_)
    (first | refine RR.ret ?_ | refine RR.normal ?_); simp [hr]
  · refine acallK tabOk Try.func74 rfl rfl (show 1 ≤ _ by decide) rfl fun _ => ?_; simp only [Try.ntmps74]
    repeat (first | (with_reducible first | refine zq1 fun _ => ?_ | refine zq2 fun _ => ?_ | refine zq3 ?_) | ((first | refine zq4 ?_ | refine zq5 fun _ _ => ?_ | refine zq6 ?_); simp [-getElem?_pos, z0, z1, z2, ]) | ((first | refine AWp.ret ?_ | refine AWp.skip ?_ | refine AWp.exit ?_); try simp only [thenP]) | (with_reducible refine zq7 ?_; simp only [blockP, thenP, reduceIte]) | with_reducible refine zq8 ?_)
    (first | refine Exec0.call [4] c1 ?_ rfl ?_ ?_ | refine Exec.call [4] c1 ?_ rfl ?_ ?_); (focus simp [-getElem?_pos, ]); (focus simp [-getElem?_pos, z0, z1, z2, ]); simp [-getElem?_pos, z0, z1, z2, ]
    repeat (first | (with_reducible first | refine zq1 fun _ => ?_ | refine zq2 fun _ => ?_ | refine zq3 ?_) | ((first | refine zq4 ?_ | refine zq5 fun _ _ => ?_ | refine zq6 ?_); simp [-getElem?_pos, z0, z1, z2, ]) | ((first | refine AWp.ret ?_ | refine AWp.skip ?_ | refine AWp.exit ?_); try simp only [thenP]) | (with_reducible refine zq7 ?_; simp only [blockP, thenP, reduceIte]) | with_reducible refine zq8 ?_)
    (first | refine Exec0.call [9] c2 ?_ rfl ?_ ?_ | refine Exec.call [9] c2 ?_ rfl ?_ ?_); (focus simp [-getElem?_pos, ]); (focus simp [-getElem?_pos, z0, z1, z2, ]); simp [-getElem?_pos, z0, z1, z2, ]
    repeat (first | (with_reducible first | refine zq1 fun _ => ?_ | refine zq2 fun _ => ?_ | refine zq3 ?_) | ((first | refine zq4 ?_ | refine zq5 fun _ _ => ?_ | refine zq6 ?_); simp [-getElem?_pos, z0, z1, z2, ]) | ((first | refine AWp.ret ?_ | refine AWp.skip ?_ | refine AWp.exit ?_); try simp only [thenP]) | (with_reducible refine zq7 ?_; simp only [blockP, thenP, reduceIte]) | with_reducible refine zq8 ?_)
    (first | refine RR.ret ?_ | refine RR.normal ?_); simp [hr]
end Go.Proofs.Ytcmkkgdjhjpldaa.Eng

namespace Go.Proofs.Ytcmkkgdjhjpldaa.Eng
open Go.RowKit
@[simp] theorem hsRows_nil : hsRows [] = [] := rfl
def boxErr (l : List HS) : Int := if l.length < 1 ∨ 6 < l.length then 6 else if l.all okS then 0 else 3
theorem boxOk {l : List HS} (h : boxErr l = 0) : (1 ≤ l.length ∧ l.length ≤ 6) ∧ l.all okS = true := by
  unfold boxErr at h
  split at h
  · cases h
  · split at h
    · rename_i h1 h2
      exact ⟨by omega, h2⟩
    · cases h
theorem okS_at {l : List HS} (h : l.all okS = true) {k : Nat} {s : HS} (hs : l[k]? = some s) : (0 ≤ s.grit ∧ s.grit ≤ 100) ∧ (0 ≤ s.cut ∧ s.cut ≤ 100) ∧ -6 ≤ s.burr ∧ s.burr ≤ 6 := by
  have := List.all_eq_true.1 h s (List.mem_of_getElem? hs)
  rw [okS_eq] at this
  simpa using this
set_option maxRecDepth 100000 in
set_option maxHeartbeats 4000000 in
theorem checkBox_c (l : List HS) : ACall Try.prog 19 [boxD l] (iD (boxErr l)) := by
  obtain ⟨r, hr⟩ : ∃ r, r = boxErr l := ⟨_, rfl⟩
  rw [← hr]
  have ca : ACall Try.prog 50 [iD 1, iD 6, .list [[iD l.length]]] (bD (fromK 1 6 [(l.length : Int)])) := areFrom_c 1 6 [(l.length : Int)] (by simp)
  by_cases h1 : l.length < 1 ∨ 6 < l.length
  · have hr' : r = 6 := hr.trans (if_pos h1)
    have hf : fromK 1 6 [(l.length : Int)] = false := by simp [fromK, inK]; omega
    rw [hf] at ca
    refine acallK tabOk Try.func19 rfl rfl (show 1 ≤ _ by decide) rfl fun _ => ?_; simp only [Try.ntmps19]
    repeat (first | (with_reducible first | refine zq1 fun _ => ?_ | refine zq2 fun _ => ?_ | refine zq3 ?_) | ((first | refine zq4 ?_ | refine zq5 fun _ _ => ?_ | refine zq6 ?_); simp [-getElem?_pos, z0, z1, z2, ]) | ((first | refine AWp.ret ?_ | refine AWp.skip ?_ | refine AWp.exit ?_); try simp only [thenP]) | (with_reducible refine zq7 ?_; simp only [blockP, thenP, reduceIte]) | with_reducible refine zq8 ?_)
    (first | refine Exec0.call [3] ca ?_ rfl ?_ ?_ | refine Exec.call [3] ca ?_ rfl ?_ ?_); (focus simp [-getElem?_pos, ]); (focus simp [-getElem?_pos, z0, z1, z2, ]); simp [-getElem?_pos, z0, z1, z2, ]
    repeat (first | (with_reducible first | refine zq1 fun _ => ?_ | refine zq2 fun _ => ?_ | refine zq3 ?_) | ((first | refine zq4 ?_ | refine zq5 fun _ _ => ?_ | refine zq6 ?_); simp [-getElem?_pos, z0, z1, z2, ]) | ((first | refine AWp.ret ?_ | refine AWp.skip ?_ | refine AWp.exit ?_); try simp only [thenP]) | (with_reducible refine zq7 ?_; simp only [blockP, thenP, reduceIte]) | with_reducible refine zq8 ?_)
    (first | refine RR.ret ?_ | refine RR.normal ?_); simp [hr']
  have hf : fromK 1 6 [(l.length : Int)] = true := by simp [fromK, inK]; omega
  rw [hf] at ca
  rw [boxErr, if_neg h1] at hr
  refine acallK tabOk Try.func19 rfl rfl (show 1 ≤ _ by decide) rfl fun _ => ?_; simp only [Try.ntmps19]
  repeat (first | (with_reducible first | refine zq1 fun _ => ?_ | refine zq2 fun _ => ?_ | refine zq3 ?_) | ((first | refine zq4 ?_ | refine zq5 fun _ _ => ?_ | refine zq6 ?_); simp [-getElem?_pos, z0, z1, z2, ]) | ((first | refine AWp.ret ?_ | refine AWp.skip ?_ | refine AWp.exit ?_); try simp only [thenP]) | (with_reducible refine zq7 ?_; simp only [blockP, thenP, reduceIte]) | with_reducible refine zq8 ?_)
  (first | refine Exec0.call [3] ca ?_ rfl ?_ ?_ | refine Exec.call [3] ca ?_ rfl ?_ ?_); (focus simp [-getElem?_pos, ]); (focus simp [-getElem?_pos, z0, z1, z2, ]); simp [-getElem?_pos, z0, z1, z2, ]
  repeat (first | (with_reducible first | refine zq1 fun _ => ?_ | refine zq2 fun _ => ?_ | refine zq3 ?_) | ((first | refine zq4 ?_ | refine zq5 fun _ _ => ?_ | refine zq6 ?_); simp [-getElem?_pos, z0, z1, z2, ]) | ((first | refine AWp.ret ?_ | refine AWp.skip ?_ | refine AWp.exit ?_); try simp only [thenP]) | (with_reducible refine zq7 ?_; simp only [blockP, thenP, reduceIte]) | with_reducible refine zq8 ?_)
  refine AWp.loopK (ι := { k : Nat // k ≤ l.length ∧ (l.take k).all okS = true }) (n := 0) (fun k => [(10, .d (boxD l)), (11, .d (iD l.length)), (12, .d (iD k.1))]) (fun _ => []) (fun k => l.length - k.1) ⟨0, Nat.zero_le _, by simp⟩ [] ?_ ?_
  · refine ⟨by rfl, by simp [], by simp [or_imp, forall_and, ] <;> (try (intro _hne; simp [_hne])), by decide⟩
  rintro ⟨k, hk, hall⟩ kk
  have w1 : IntKind.i64.wrap ((k : Int) + 1) = (k : Int) + 1 := wrap64_in (by omega)
  by_cases hlt : k < l.length
  · obtain ⟨t, ht⟩ : ∃ t, l[k]? = some t := ⟨_, List.getElem?_eq_getElem hlt⟩
    have ci := isStone_c t
    rcases g : okS t <;> rw [g] at ci
    · have hr' : r = 3 := by rw [hr, allK_not ht g]; rfl
      repeat (first | (with_reducible first | refine zq1 fun _ => ?_ | refine zq2 fun _ => ?_ | refine zq3 ?_) | ((first | refine zq4 ?_ | refine zq5 fun _ _ => ?_ | refine zq6 ?_); simp [-getElem?_pos, z0, z1, z2, hlt, ht]) | ((first | refine AWp.ret ?_ | refine AWp.skip ?_ | refine AWp.exit ?_); try simp only [thenP]) | (with_reducible refine zq7 ?_; simp only [blockP, thenP, reduceIte]) | with_reducible refine zq8 ?_)
      (first | refine Exec0.call [] ci ?_ rfl ?_ ?_ | refine Exec.call [] ci ?_ rfl ?_ ?_); (focus simp [-getElem?_pos, ]); (focus simp [-getElem?_pos, z0, z1, z2, ]); simp [-getElem?_pos, z0, z1, z2, ]
      repeat (first | (with_reducible first | refine zq1 fun _ => ?_ | refine zq2 fun _ => ?_ | refine zq3 ?_) | ((first | refine zq4 ?_ | refine zq5 fun _ _ => ?_ | refine zq6 ?_); simp [-getElem?_pos, z0, z1, z2, ]) | ((first | refine AWp.ret ?_ | refine AWp.skip ?_ | refine AWp.exit ?_); try simp only [thenP]) | (with_reducible refine zq7 ?_; simp only [blockP, thenP, reduceIte]) | with_reducible refine zq8 ?_)
      (first | refine RR.ret ?_ | refine RR.normal ?_); simp [hr']
    · have hall2 : (l.take (k + 1)).all okS = true := by rw [allK_take ht, hall, g]; rfl
      repeat (first | (with_reducible first | refine zq1 fun _ => ?_ | refine zq2 fun _ => ?_ | refine zq3 ?_) | ((first | refine zq4 ?_ | refine zq5 fun _ _ => ?_ | refine zq6 ?_); simp [-getElem?_pos, z0, z1, z2, hlt, ht]) | ((first | refine AWp.ret ?_ | refine AWp.skip ?_ | refine AWp.exit ?_); try simp only [thenP]) | (with_reducible refine zq7 ?_; simp only [blockP, thenP, reduceIte]) | with_reducible refine zq8 ?_)
      (first | refine Exec0.call [] ci ?_ rfl ?_ ?_ | refine Exec.call [] ci ?_ rfl ?_ ?_); (focus simp [-getElem?_pos, ]); (focus simp [-getElem?_pos, z0, z1, z2, ]); simp [-getElem?_pos, z0, z1, z2, ]
      repeat (first | (with_reducible first | refine zq1 fun _ => ?_ | refine zq2 fun _ => ?_ | refine zq3 ?_) | ((first | refine zq4 ?_ | refine zq5 fun _ _ => ?_ | refine zq6 ?_); simp [-getElem?_pos, z0, z1, z2, w1]) | ((first | refine AWp.ret ?_ | refine AWp.skip ?_ | refine AWp.exit ?_); try simp only [thenP]) | (with_reducible refine zq7 ?_; simp only [blockP, thenP, reduceIte]) | with_reducible refine zq8 ?_)
      refine LL.go ⟨k + 1, hlt, hall2⟩ [] ⟨by rfl, by simp [], by simp [or_imp, forall_and, ] <;> (try (intro _hne; simp [_hne])), by decide⟩ ?_
      simp; omega
  · obtain rfl : k = l.length := by omega
    rw [List.take_of_length_le (Nat.le_refl _)] at hall
    have hr' : r = 0 := by rw [hr, hall]; rfl
    repeat (first | (with_reducible first | refine zq1 fun _ => ?_ | refine zq2 fun _ => ?_ | refine zq3 ?_) | ((first | refine zq4 ?_ | refine zq5 fun _ _ => ?_ | refine zq6 ?_); simp [-getElem?_pos, z0, z1, z2, hlt]) | ((first | refine AWp.ret ?_ | refine AWp.skip ?_ | refine AWp.exit ?_); try simp only [thenP]) | (with_reducible refine zq7 ?_; simp only [blockP, thenP, reduceIte]) | with_reducible refine zq8 ?_)
    (first | refine RR.ret ?_ | refine RR.normal ?_); simp [hr']
def chkErr (l : List HS) (es : List HE) : Int := if boxErr l = 0 then (if es.all okE then 0 else 2) else boxErr l
def chkB (l : List HS) (es : List HE) : List HS := if chkErr l es = 0 then l else []
set_option maxRecDepth 100000 in
set_option maxHeartbeats 4000000 in
theorem check_c (l : List HS) (es : List HE) (hes : es.length ≤ 1000) : ACall Try.prog 49 [boxD l, .list (heRows es)] (.tup [.agg [boxD (chkB l es)], iD (chkErr l es)]) := by
  obtain ⟨r, hr⟩ : ∃ r, r = chkErr l es := ⟨_, rfl⟩
  obtain ⟨b, hb⟩ : ∃ b, b = chkB l es := ⟨_, rfl⟩
  rw [← hr, ← hb]
  rw [chkB, ← hr] at hb
  have cb := checkBox_c l
  by_cases h0 : boxErr l = 0
  · rw [chkErr, if_pos h0] at hr
    rw [h0] at cb
    refine acallK tabOk Try.func49 rfl rfl (show 2 ≤ _ by decide) rfl fun _ => ?_; simp only [Try.ntmps49]
    repeat (first | (with_reducible first | refine zq1 fun _ => ?_ | refine zq2 fun _ => ?_ | refine zq3 ?_) | ((first | refine zq4 ?_ | refine zq5 fun _ _ => ?_ | refine zq6 ?_); simp [-getElem?_pos, z0, z1, z2, ]) | ((first | refine AWp.ret ?_ | refine AWp.skip ?_ | refine AWp.exit ?_); try simp only [thenP]) | (with_reducible refine zq7 ?_; simp only [blockP, thenP, reduceIte]) | with_reducible refine zq8 ?_)
    (first | refine Exec0.call [] cb ?_ rfl ?_ ?_ | refine Exec.call [] cb ?_ rfl ?_ ?_); (focus simp [-getElem?_pos, ]); (focus simp [-getElem?_pos, z0, z1, z2, ]); simp [-getElem?_pos, z0, z1, z2, ]
    repeat (first | (with_reducible first | refine zq1 fun _ => ?_ | refine zq2 fun _ => ?_ | refine zq3 ?_) | ((first | refine zq4 ?_ | refine zq5 fun _ _ => ?_ | refine zq6 ?_); simp [-getElem?_pos, z0, z1, z2, ]) | ((first | refine AWp.ret ?_ | refine AWp.skip ?_ | refine AWp.exit ?_); try simp only [thenP]) | (with_reducible refine zq7 ?_; simp only [blockP, thenP, reduceIte]) | with_reducible refine zq8 ?_)
    refine AWp.loopK (ι := { k : Nat // k ≤ es.length ∧ (es.take k).all okE = true }) (n := 1) (fun k => [(0, .d (boxD l)), (4, .ptr 0 0 0), (15, .d (.list (heRows es))), (16, .d (iD es.length)), (17, .d (iD k.1))]) (fun _ => [(0, .box 65 [.nilS] false)]) (fun k => es.length - k.1) ⟨0, Nat.zero_le _, by simp⟩ [0] ?_ ?_
    · refine ⟨by rfl, by simp [], by simp [or_imp, forall_and, ] <;> (try (intro _hne; simp [_hne])), by decide⟩
    rintro ⟨k, hk, hall⟩ kk
    have w1 : IntKind.i64.wrap ((k : Int) + 1) = (k : Int) + 1 := wrap64_in (by omega)
    by_cases hlt : k < es.length
    · obtain ⟨t, ht⟩ : ∃ t, es[k]? = some t := ⟨_, List.getElem?_eq_getElem hlt⟩
      have ci := isEdge_c t
      rcases g : okE t <;> rw [g] at ci
      · have hr' : r = 2 := by rw [hr, allK_not ht g]; rfl
        repeat (first | (with_reducible first | refine zq1 fun _ => ?_ | refine zq2 fun _ => ?_ | refine zq3 ?_) | ((first | refine zq4 ?_ | refine zq5 fun _ _ => ?_ | refine zq6 ?_); simp [-getElem?_pos, z0, z1, z2, hlt, ht]) | ((first | refine AWp.ret ?_ | refine AWp.skip ?_ | refine AWp.exit ?_); try simp only [thenP]) | (with_reducible refine zq7 ?_; simp only [blockP, thenP, reduceIte]) | with_reducible refine zq8 ?_)
        (first | refine Exec0.call [] ci ?_ rfl ?_ ?_ | refine Exec.call [] ci ?_ rfl ?_ ?_); (focus simp [-getElem?_pos, ]); (focus simp [-getElem?_pos, z0, z1, z2, ]); simp [-getElem?_pos, z0, z1, z2, ]
        repeat (first | (with_reducible first | refine zq1 fun _ => ?_ | refine zq2 fun _ => ?_ | refine zq3 ?_) | ((first | refine zq4 ?_ | refine zq5 fun _ _ => ?_ | refine zq6 ?_); simp [-getElem?_pos, z0, z1, z2, ]) | ((first | refine AWp.ret ?_ | refine AWp.skip ?_ | refine AWp.exit ?_); try simp only [thenP]) | (with_reducible refine zq7 ?_; simp only [blockP, thenP, reduceIte]) | with_reducible refine zq8 ?_)
        (first | refine RR.ret ?_ | refine RR.normal ?_); simp [hr', hb]
      · have hall2 : (es.take (k + 1)).all okE = true := by rw [allK_take ht, hall, g]; rfl
        repeat (first | (with_reducible first | refine zq1 fun _ => ?_ | refine zq2 fun _ => ?_ | refine zq3 ?_) | ((first | refine zq4 ?_ | refine zq5 fun _ _ => ?_ | refine zq6 ?_); simp [-getElem?_pos, z0, z1, z2, hlt, ht]) | ((first | refine AWp.ret ?_ | refine AWp.skip ?_ | refine AWp.exit ?_); try simp only [thenP]) | (with_reducible refine zq7 ?_; simp only [blockP, thenP, reduceIte]) | with_reducible refine zq8 ?_)
        (first | refine Exec0.call [] ci ?_ rfl ?_ ?_ | refine Exec.call [] ci ?_ rfl ?_ ?_); (focus simp [-getElem?_pos, ]); (focus simp [-getElem?_pos, z0, z1, z2, ]); simp [-getElem?_pos, z0, z1, z2, ]
        repeat (first | (with_reducible first | refine zq1 fun _ => ?_ | refine zq2 fun _ => ?_ | refine zq3 ?_) | ((first | refine zq4 ?_ | refine zq5 fun _ _ => ?_ | refine zq6 ?_); simp [-getElem?_pos, z0, z1, z2, w1]) | ((first | refine AWp.ret ?_ | refine AWp.skip ?_ | refine AWp.exit ?_); try simp only [thenP]) | (with_reducible refine zq7 ?_; simp only [blockP, thenP, reduceIte]) | with_reducible refine zq8 ?_)
        refine LL.go ⟨k + 1, hlt, hall2⟩ [0] ⟨by rfl, by simp [], by simp [or_imp, forall_and, ] <;> (try (intro _hne; simp [_hne])), by decide⟩ ?_
        simp; omega
    · obtain rfl : k = es.length := by omega
      rw [List.take_of_length_le (Nat.le_refl _)] at hall
      have hr' : r = 0 := by rw [hr, hall]; rfl
      repeat (first | (with_reducible first | refine zq1 fun _ => ?_ | refine zq2 fun _ => ?_ | refine zq3 ?_) | ((first | refine zq4 ?_ | refine zq5 fun _ _ => ?_ | refine zq6 ?_); simp [-getElem?_pos, z0, z1, z2, hlt]) | ((first | refine AWp.ret ?_ | refine AWp.skip ?_ | refine AWp.exit ?_); try simp only [thenP]) | (with_reducible refine zq7 ?_; simp only [blockP, thenP, reduceIte]) | with_reducible refine zq8 ?_)
      (first | refine RR.ret ?_ | refine RR.normal ?_); simp [hr', hb]
  · have hr' : r = boxErr l := hr.trans (if_neg h0)
    rw [hr'] at hb ⊢
    generalize boxErr l = e at *
    refine acallK tabOk Try.func49 rfl rfl (show 2 ≤ _ by decide) rfl fun _ => ?_; simp only [Try.ntmps49]
    repeat (first | (with_reducible first | refine zq1 fun _ => ?_ | refine zq2 fun _ => ?_ | refine zq3 ?_) | ((first | refine zq4 ?_ | refine zq5 fun _ _ => ?_ | refine zq6 ?_); simp [-getElem?_pos, z0, z1, z2, ]) | ((first | refine AWp.ret ?_ | refine AWp.skip ?_ | refine AWp.exit ?_); try simp only [thenP]) | (with_reducible refine zq7 ?_; simp only [blockP, thenP, reduceIte]) | with_reducible refine zq8 ?_)
    (first | refine Exec0.call [] cb ?_ rfl ?_ ?_ | refine Exec.call [] cb ?_ rfl ?_ ?_); (focus simp [-getElem?_pos, h0]); (focus simp [-getElem?_pos, z0, z1, z2, h0]); simp [-getElem?_pos, z0, z1, z2, h0]
    repeat (first | (with_reducible first | refine zq1 fun _ => ?_ | refine zq2 fun _ => ?_ | refine zq3 ?_) | ((first | refine zq4 ?_ | refine zq5 fun _ _ => ?_ | refine zq6 ?_); simp [-getElem?_pos, z0, z1, z2, h0]) | ((first | refine AWp.ret ?_ | refine AWp.skip ?_ | refine AWp.exit ?_); try simp only [thenP]) | (with_reducible refine zq7 ?_; simp only [blockP, thenP, reduceIte]) | with_reducible refine zq8 ?_)
    (first | refine RR.ret ?_ | refine RR.normal ?_); simp [hb, h0]
end Go.Proofs.Ytcmkkgdjhjpldaa.Eng

namespace Go.Proofs.Ytcmkkgdjhjpldaa.Eng
open Go.RowKit
def canS (s : HS) (e : HE) : Bool := decide (e.burr + s.burr ≤ 6)
def strE (s : HS) (e : HE) : HE := ⟨max s.grit (e.depth - s.cut), max 0 (e.burr + s.burr)⟩
def strR (s : HS) (e : HE) : HE := if canS s e then strE s e else ⟨0, 0⟩
structure GoodE (e : HE) : Prop where
  d0 : 0 ≤ e.depth
  d1 : e.depth ≤ 100
  b0 : 0 ≤ e.burr
  b1 : e.burr ≤ 6
structure GoodS (s : HS) : Prop where
  g0 : 0 ≤ s.grit
  g1 : s.grit ≤ 100
  c0 : 0 ≤ s.cut
  c1 : s.cut ≤ 100
  b0 : -6 ≤ s.burr
  b1 : s.burr ≤ 6
theorem goodE {e : HE} (h : okE e = true) : GoodE e := by
  rw [okE_eq] at h
  have := of_decide_eq_true h
  exact ⟨this.1.1, this.1.2, this.2.1, this.2.2⟩
theorem goodS {l : List HS} (h : l.all okS = true) {k : Nat} {s : HS} (hs : l[k]? = some s) : GoodS s := by
  have := okS_at h hs
  exact ⟨this.1.1, this.1.2, this.2.1.1, this.2.1.2, this.2.2.1, this.2.2.2⟩
theorem GoodE.str {s : HS} {e : HE} (hs : GoodS s) (he : GoodE e) (hc : canS s e = true) : GoodE (strE s e) := by
  obtain ⟨h1, h2, h3, h4⟩ := he
  obtain ⟨g1, g2, g3, g4, g5, g6⟩ := hs
  have := of_decide_eq_true hc
  exact ⟨by simp only [strE]; omega, by simp only [strE]; omega, by simp only [strE]; omega, by simp only [strE]; omega⟩
set_option maxRecDepth 100000 in
set_option maxHeartbeats 4000000 in
theorem stroke_c (l : List HS) (e : HE) {i : Nat} {s : HS} (hs : l[i]? = some s) (gs : GoodS s) (ge : GoodE e) : ACall Try.prog 51 [.agg [boxD l], edgD e, iD i] (.tup [edgD (strR s e), bD (canS s e)]) := by
  obtain ⟨h1, h2, h3, h4⟩ := ge
  obtain ⟨g1, g2, g3, g4, g5, g6⟩ := gs
  have hlt : i < l.length := (List.getElem?_eq_some_iff.1 hs).1
  have w1 : IntKind.i64.wrap (e.burr + s.burr) = e.burr + s.burr := wrap64_in (by omega)
  have w2 : IntKind.i64.wrap (e.depth - s.cut) = e.depth - s.cut := wrap64_in (by omega)
  have m1 : (if s.grit < e.depth - s.cut then e.depth - s.cut else s.grit) = max s.grit (e.depth - s.cut) := by split <;> omega
  have m2 : (if 0 < e.burr + s.burr then e.burr + s.burr else 0) = max 0 (e.burr + s.burr) := by split <;> omega
  by_cases g : 6 < e.burr + s.burr
  · have hc : canS s e = false := decide_eq_false (by omega)
    rw [strR, hc]
    refine acallK tabOk Try.func51 rfl rfl (show 3 ≤ _ by decide) rfl fun _ => ?_; simp only [Try.ntmps51]
    repeat (first | (with_reducible first | refine zq1 fun _ => ?_ | refine zq2 fun _ => ?_ | refine zq3 ?_) | ((first | refine zq4 ?_ | refine zq5 fun _ _ => ?_ | refine zq6 ?_); simp [-getElem?_pos, z0, z1, z2, hs, hlt, w1, w2, g]) | ((first | refine AWp.ret ?_ | refine AWp.skip ?_ | refine AWp.exit ?_); try simp only [thenP]) | (with_reducible refine zq7 ?_; simp only [blockP, thenP, reduceIte]) | with_reducible refine zq8 ?_)
    (first | refine RR.ret ?_ | refine RR.normal ?_); simp []
  · have hc : canS s e = true := decide_eq_true (by omega)
    rw [strR, hc]
    refine acallK tabOk Try.func51 rfl rfl (show 3 ≤ _ by decide) rfl fun _ => ?_; simp only [Try.ntmps51]
    repeat (first | (with_reducible first | refine zq1 fun _ => ?_ | refine zq2 fun _ => ?_ | refine zq3 ?_) | ((first | refine zq4 ?_ | refine zq5 fun _ _ => ?_ | refine zq6 ?_); simp [-getElem?_pos, z0, z1, z2, hs, hlt, w1, w2, g]) | ((first | refine AWp.ret ?_ | refine AWp.skip ?_ | refine AWp.exit ?_); try simp only [thenP]) | (with_reducible refine zq7 ?_; simp only [blockP, thenP, reduceIte]) | with_reducible refine zq8 ?_)
    (first | refine RR.ret ?_ | refine RR.normal ?_); simp [strE, m1, m2]
def runE (l : List HS) : List Int → HE → Option HE
  | [], e => some e
  | i :: t, e => match l[i.toNat]? with
    | some s => if canS s e then runE l t (strE s e) else none
    | none => none
theorem runE_take {l : List HS} {t : List Int} {k : Nat} {i : Int} {e e1 : HE} {s : HS} (hi : t[k]? = some i) (h : runE l (t.take k) e = some e1) (hs : l[i.toNat]? = some s) : runE l (t.take (k + 1)) e = (if canS s e1 then some (strE s e1) else none) := by
  induction t generalizing k e with
  | nil => cases hi
  | cons j t ih =>
    cases k with
    | zero =>
      simp at hi
      subst hi
      simp [runE] at h
      subst h
      simp [runE, hs]
    | succ k =>
      simp only [List.take_succ_cons, runE] at h ⊢
      split at h
      · rename_i s' hs'
        split at h
        · rename_i hc
          simp only [hc, if_true]
          exact ih (by simpa using hi) h
        · cases h
      · cases h
theorem runE_stop {l : List HS} {t : List Int} {k : Nat} {e : HE} (h : runE l (t.take k) e = none) : runE l t e = none := by
  induction t generalizing k e with
  | nil => simpa using h
  | cons j t ih =>
    cases k with
    | zero => simp [runE] at h
    | succ k =>
      simp only [List.take_succ_cons, runE] at h ⊢
      split
      · rename_i s hs
        simp only [hs] at h
        split
        · rename_i hc
          simp only [hc, if_true] at h
          exact ih h
        · rfl
      · rfl
def aftE (l : List HS) (e : HE) (t : List Int) : Int :=
  if chkErr l [e] = 0 then (if 800 < t.length then 6 else if fromK 0 (l.length - 1) t = false then 3 else match runE l t e with
    | some _ => 0
    | none => 16) else chkErr l [e]
def aftR (l : List HS) (e : HE) (t : List Int) : HE :=
  if chkErr l [e] = 0 then (if 800 < t.length then ⟨0, 0⟩ else if fromK 0 (l.length - 1) t = false then ⟨0, 0⟩ else (runE l t e).getD ⟨0, 0⟩) else ⟨0, 0⟩
structure BoxOk (l : List HS) : Prop where
  n1 : 1 ≤ l.length
  n2 : l.length ≤ 6
  all : l.all okS = true
theorem chkOk {l : List HS} {es : List HE} (h : chkErr l es = 0) : BoxOk l ∧ es.all okE = true := by
  unfold chkErr at h
  split at h
  · rename_i h0
    obtain ⟨h1, h2⟩ := boxOk h0
    refine ⟨⟨h1.1, h1.2, h2⟩, ?_⟩
    split at h
    · assumption
    · cases h
  · rename_i h0
    exact absurd h h0
theorem runE_good {l : List HS} (hl : l.all okS = true) : ∀ {t : List Int} {e e1 : HE}, GoodE e → runE l t e = some e1 → GoodE e1
  | [], e, e1, he, h => by cases h; exact he
  | i :: t, e, e1, he, h => by
    simp only [runE] at h
    split at h
    · rename_i s hs
      split at h
      · rename_i hc
        exact runE_good hl (GoodE.str (goodS hl hs) he hc) h
      · cases h
    · cases h
set_option maxRecDepth 100000 in
set_option maxHeartbeats 4000000 in
theorem after_c (l : List HS) (e : HE) (t : List Int) (ht : t.length ≤ 1000000) : ACall Try.prog 17 [boxD l, edgD e, intL t] (.tup [edgD (aftR l e t), iD (aftE l e t)]) := by
  obtain ⟨r, hr⟩ : ∃ r, r = aftE l e t := ⟨_, rfl⟩
  obtain ⟨x, hx⟩ : ∃ x, x = aftR l e t := ⟨_, rfl⟩
  rw [← hr, ← hx]
  unfold aftE at hr
  unfold aftR at hx
  have cb : ACall Try.prog 49 [boxD l, .list [[iD e.depth, iD e.burr]]] (.tup [.agg [boxD (chkB l [e])], iD (chkErr l [e])]) := check_c l [e] (by simp)
  by_cases h0 : chkErr l [e] = 0
  · obtain ⟨hb, hes⟩ := chkOk h0
    have ge := goodE (e := e) (by simpa using hes)
    rw [if_pos h0] at hr hx
    have hcb : chkB l [e] = l := if_pos h0
    rw [h0, hcb] at cb
    by_cases h1 : 800 < t.length
    · have h1' : (800 : Int) < t.length := by omega
      rw [if_pos h1] at hr hx
      subst hx
      refine acallK tabOk Try.func17 rfl rfl (show 3 ≤ _ by decide) rfl fun _ => ?_; simp only [Try.ntmps17]
      repeat (first | (with_reducible first | refine zq1 fun _ => ?_ | refine zq2 fun _ => ?_ | refine zq3 ?_) | ((first | refine zq4 ?_ | refine zq5 fun _ _ => ?_ | refine zq6 ?_); simp [-getElem?_pos, z0, z1, z2, ]) | ((first | refine AWp.ret ?_ | refine AWp.skip ?_ | refine AWp.exit ?_); try simp only [thenP]) | (with_reducible refine zq7 ?_; simp only [blockP, thenP, reduceIte]) | with_reducible refine zq8 ?_)
      (first | refine Exec0.call [5] cb ?_ rfl ?_ ?_ | refine Exec.call [5] cb ?_ rfl ?_ ?_); (focus simp [-getElem?_pos, ]); (focus simp [-getElem?_pos, z0, z1, z2, ]); simp [-getElem?_pos, z0, z1, z2, ]
      repeat (first | (with_reducible first | refine zq1 fun _ => ?_ | refine zq2 fun _ => ?_ | refine zq3 ?_) | ((first | refine zq4 ?_ | refine zq5 fun _ _ => ?_ | refine zq6 ?_); simp [-getElem?_pos, z0, z1, z2, h1, h1']) | ((first | refine AWp.ret ?_ | refine AWp.skip ?_ | refine AWp.exit ?_); try simp only [thenP]) | (with_reducible refine zq7 ?_; simp only [blockP, thenP, reduceIte]) | with_reducible refine zq8 ?_)
      (first | refine RR.ret ?_ | refine RR.normal ?_); simp [hr]
    have h1' : ¬ (800 : Int) < t.length := by omega
    rw [if_neg h1] at hr hx
    have n1 := hb.n1
    have n2 := hb.n2
    have wl : IntKind.i64.wrap ((l.length : Int) - 1) = (l.length : Int) - 1 := wrap64_in (by omega)
    have ca := areFrom_c 0 ((l.length : Int) - 1) t ht
    rcases g : fromK 0 ((l.length : Int) - 1) t <;> rw [g] at ca hr hx
    · subst hx
      refine acallK tabOk Try.func17 rfl rfl (show 3 ≤ _ by decide) rfl fun _ => ?_; simp only [Try.ntmps17]
      repeat (first | (with_reducible first | refine zq1 fun _ => ?_ | refine zq2 fun _ => ?_ | refine zq3 ?_) | ((first | refine zq4 ?_ | refine zq5 fun _ _ => ?_ | refine zq6 ?_); simp [-getElem?_pos, z0, z1, z2, ]) | ((first | refine AWp.ret ?_ | refine AWp.skip ?_ | refine AWp.exit ?_); try simp only [thenP]) | (with_reducible refine zq7 ?_; simp only [blockP, thenP, reduceIte]) | with_reducible refine zq8 ?_)
      (first | refine Exec0.call [5] cb ?_ rfl ?_ ?_ | refine Exec.call [5] cb ?_ rfl ?_ ?_); (focus simp [-getElem?_pos, ]); (focus simp [-getElem?_pos, z0, z1, z2, ]); simp [-getElem?_pos, z0, z1, z2, ]
      repeat (first | (with_reducible first | refine zq1 fun _ => ?_ | refine zq2 fun _ => ?_ | refine zq3 ?_) | ((first | refine zq4 ?_ | refine zq5 fun _ _ => ?_ | refine zq6 ?_); simp [-getElem?_pos, z0, z1, z2, h1, h1', wl]) | ((first | refine AWp.ret ?_ | refine AWp.skip ?_ | refine AWp.exit ?_); try simp only [thenP]) | (with_reducible refine zq7 ?_; simp only [blockP, thenP, reduceIte]) | with_reducible refine zq8 ?_)
      (first | refine Exec0.call [] ca ?_ rfl ?_ ?_ | refine Exec.call [] ca ?_ rfl ?_ ?_); (focus simp [-getElem?_pos, wl]); (focus simp [-getElem?_pos, z0, z1, z2, wl]); simp [-getElem?_pos, z0, z1, z2, wl]
      repeat (first | (with_reducible first | refine zq1 fun _ => ?_ | refine zq2 fun _ => ?_ | refine zq3 ?_) | ((first | refine zq4 ?_ | refine zq5 fun _ _ => ?_ | refine zq6 ?_); simp [-getElem?_pos, z0, z1, z2, ]) | ((first | refine AWp.ret ?_ | refine AWp.skip ?_ | refine AWp.exit ?_); try simp only [thenP]) | (with_reducible refine zq7 ?_; simp only [blockP, thenP, reduceIte]) | with_reducible refine zq8 ?_)
      (first | refine RR.ret ?_ | refine RR.normal ?_); simp [hr]
    simp only [reduceCtorEq, if_false] at hr hx
    refine acallK tabOk Try.func17 rfl rfl (show 3 ≤ _ by decide) rfl fun _ => ?_; simp only [Try.ntmps17]
    repeat (first | (with_reducible first | refine zq1 fun _ => ?_ | refine zq2 fun _ => ?_ | refine zq3 ?_) | ((first | refine zq4 ?_ | refine zq5 fun _ _ => ?_ | refine zq6 ?_); simp [-getElem?_pos, z0, z1, z2, ]) | ((first | refine AWp.ret ?_ | refine AWp.skip ?_ | refine AWp.exit ?_); try simp only [thenP]) | (with_reducible refine zq7 ?_; simp only [blockP, thenP, reduceIte]) | with_reducible refine zq8 ?_)
    (first | refine Exec0.call [5] cb ?_ rfl ?_ ?_ | refine Exec.call [5] cb ?_ rfl ?_ ?_); (focus simp [-getElem?_pos, ]); (focus simp [-getElem?_pos, z0, z1, z2, ]); simp [-getElem?_pos, z0, z1, z2, ]
    repeat (first | (with_reducible first | refine zq1 fun _ => ?_ | refine zq2 fun _ => ?_ | refine zq3 ?_) | ((first | refine zq4 ?_ | refine zq5 fun _ _ => ?_ | refine zq6 ?_); simp [-getElem?_pos, z0, z1, z2, h1, h1', wl]) | ((first | refine AWp.ret ?_ | refine AWp.skip ?_ | refine AWp.exit ?_); try simp only [thenP]) | (with_reducible refine zq7 ?_; simp only [blockP, thenP, reduceIte]) | with_reducible refine zq8 ?_)
    (first | refine Exec0.call [] ca ?_ rfl ?_ ?_ | refine Exec.call [] ca ?_ rfl ?_ ?_); (focus simp [-getElem?_pos, wl]); (focus simp [-getElem?_pos, z0, z1, z2, wl]); simp [-getElem?_pos, z0, z1, z2, wl]
    repeat (first | (with_reducible first | refine zq1 fun _ => ?_ | refine zq2 fun _ => ?_ | refine zq3 ?_) | ((first | refine zq4 ?_ | refine zq5 fun _ _ => ?_ | refine zq6 ?_); simp [-getElem?_pos, z0, z1, z2, ]) | ((first | refine AWp.ret ?_ | refine AWp.skip ?_ | refine AWp.exit ?_); try simp only [thenP]) | (with_reducible refine zq7 ?_; simp only [blockP, thenP, reduceIte]) | with_reducible refine zq8 ?_)
    refine AWp.loopK (ι := { q : Nat × HE // q.1 ≤ t.length ∧ runE l (t.take q.1) e = some q.2 }) (n := 3) (fun q => [(4, .ptr 0 0 0), (6, .ptr 1 0 0), (8, .ptr 2 0 0), (36, .d (intL t)), (37, .d (iD t.length)), (38, .d (iD q.1.1))]) (fun q => [(0, .box 24 [.d (iD q.1.2.depth), .d (iD q.1.2.burr)] false), (1, .box 24 [.d (iD 0), .d (iD 0)] false), (2, .box 65 [.d (boxD l)] false)]) (fun q => t.length - q.1.1) ⟨(0, e), Nat.zero_le _, by simp [runE]⟩ [0, 1, 10] ?_ ?_
    · refine ⟨by rfl, by simp [], by simp [or_imp, forall_and, ] <;> (try (intro _hne; simp [_hne])), by decide⟩
    rintro ⟨⟨k, e1⟩, hk, hrun⟩ kk
    simp only at hk hrun
    have w1 : IntKind.i64.wrap ((k : Int) + 1) = (k : Int) + 1 := wrap64_in (by omega)
    by_cases hlt : k < t.length
    · obtain ⟨i, hi⟩ : ∃ i, t[k]? = some i := ⟨_, List.getElem?_eq_getElem hlt⟩
      have hib := fromK_mem g hi
      obtain ⟨j, rfl⟩ := Int.eq_ofNat_of_zero_le hib.1
      obtain ⟨s, hs⟩ : ∃ s, l[j]? = some s := ⟨_, List.getElem?_eq_getElem (by omega)⟩
      have hstep := runE_take hi hrun (s := s) (by simpa using hs)
      have cs := stroke_c l e1 hs (goodS hb.all hs) (runE_good hb.all ge hrun)
      rcases hc : canS s e1 <;> rw [hc] at cs hstep
      · have hnone : runE l t e = none := runE_stop (k := k + 1) (by rw [hstep]; rfl)
        rw [hnone] at hr hx
        simp only [Option.getD_none] at hx
        subst hx
        generalize strR s e1 = e2 at *
        repeat (first | (with_reducible first | refine zq1 fun _ => ?_ | refine zq2 fun _ => ?_ | refine zq3 ?_) | ((first | refine zq4 ?_ | refine zq5 fun _ _ => ?_ | refine zq6 ?_); simp [-getElem?_pos, z0, z1, z2, hlt, hi]) | ((first | refine AWp.ret ?_ | refine AWp.skip ?_ | refine AWp.exit ?_); try simp only [thenP]) | (with_reducible refine zq7 ?_; simp only [blockP, thenP, reduceIte]) | with_reducible refine zq8 ?_)
        (first | refine Exec0.call [] cs ?_ rfl ?_ ?_ | refine Exec.call [] cs ?_ rfl ?_ ?_); (focus simp [-getElem?_pos, ]); (focus simp [-getElem?_pos, z0, z1, z2, ]); simp [-getElem?_pos, z0, z1, z2, ]
        repeat (first | (with_reducible first | refine zq1 fun _ => ?_ | refine zq2 fun _ => ?_ | refine zq3 ?_) | ((first | refine zq4 ?_ | refine zq5 fun _ _ => ?_ | refine zq6 ?_); simp [-getElem?_pos, z0, z1, z2, ]) | ((first | refine AWp.ret ?_ | refine AWp.skip ?_ | refine AWp.exit ?_); try simp only [thenP]) | (with_reducible refine zq7 ?_; simp only [blockP, thenP, reduceIte]) | with_reducible refine zq8 ?_)
        (first | refine RR.ret ?_ | refine RR.normal ?_); simp [hr]
      · have hgo : runE l (t.take (k + 1)) e = some (strE s e1) := by rw [hstep]; rfl
        have hsr : strR s e1 = strE s e1 := by rw [strR, hc]; rfl
        rw [hsr] at cs
        generalize strE s e1 = e2 at *
        repeat (first | (with_reducible first | refine zq1 fun _ => ?_ | refine zq2 fun _ => ?_ | refine zq3 ?_) | ((first | refine zq4 ?_ | refine zq5 fun _ _ => ?_ | refine zq6 ?_); simp [-getElem?_pos, z0, z1, z2, hlt, hi]) | ((first | refine AWp.ret ?_ | refine AWp.skip ?_ | refine AWp.exit ?_); try simp only [thenP]) | (with_reducible refine zq7 ?_; simp only [blockP, thenP, reduceIte]) | with_reducible refine zq8 ?_)
        (first | refine Exec0.call [] cs ?_ rfl ?_ ?_ | refine Exec.call [] cs ?_ rfl ?_ ?_); (focus simp [-getElem?_pos, ]); (focus simp [-getElem?_pos, z0, z1, z2, ]); simp [-getElem?_pos, z0, z1, z2, ]
        repeat (first | (with_reducible first | refine zq1 fun _ => ?_ | refine zq2 fun _ => ?_ | refine zq3 ?_) | ((first | refine zq4 ?_ | refine zq5 fun _ _ => ?_ | refine zq6 ?_); simp [-getElem?_pos, z0, z1, z2, w1]) | ((first | refine AWp.ret ?_ | refine AWp.skip ?_ | refine AWp.exit ?_); try simp only [thenP]) | (with_reducible refine zq7 ?_; simp only [blockP, thenP, reduceIte]) | with_reducible refine zq8 ?_)
        refine LL.go ⟨(k + 1, e2), hlt, hgo⟩ [0, 1, 2] ⟨by rfl, by simp [], by simp [or_imp, forall_and, ] <;> (try (intro _hne; simp [_hne])), by decide⟩ ?_
        simp; omega
    · obtain rfl : k = t.length := by omega
      rw [List.take_of_length_le (Nat.le_refl _)] at hrun
      rw [hrun] at hr hx
      simp only [Option.getD_some] at hx
      subst hx
      repeat (first | (with_reducible first | refine zq1 fun _ => ?_ | refine zq2 fun _ => ?_ | refine zq3 ?_) | ((first | refine zq4 ?_ | refine zq5 fun _ _ => ?_ | refine zq6 ?_); simp [-getElem?_pos, z0, z1, z2, hlt]) | ((first | refine AWp.ret ?_ | refine AWp.skip ?_ | refine AWp.exit ?_); try simp only [thenP]) | (with_reducible refine zq7 ?_; simp only [blockP, thenP, reduceIte]) | with_reducible refine zq8 ?_)
      (first | refine RR.ret ?_ | refine RR.normal ?_); simp [hr]
  · rw [if_neg h0] at hr hx
    subst hx
    rw [← hr] at h0 cb
    refine acallK tabOk Try.func17 rfl rfl (show 3 ≤ _ by decide) rfl fun _ => ?_; simp only [Try.ntmps17]
    repeat (first | (with_reducible first | refine zq1 fun _ => ?_ | refine zq2 fun _ => ?_ | refine zq3 ?_) | ((first | refine zq4 ?_ | refine zq5 fun _ _ => ?_ | refine zq6 ?_); simp [-getElem?_pos, z0, z1, z2, ]) | ((first | refine AWp.ret ?_ | refine AWp.skip ?_ | refine AWp.exit ?_); try simp only [thenP]) | (with_reducible refine zq7 ?_; simp only [blockP, thenP, reduceIte]) | with_reducible refine zq8 ?_)
    (first | refine Exec0.call [5] cb ?_ rfl ?_ ?_ | refine Exec.call [5] cb ?_ rfl ?_ ?_); (focus simp [-getElem?_pos, ]); (focus simp [-getElem?_pos, z0, z1, z2, ]); simp [-getElem?_pos, z0, z1, z2, ]
    repeat (first | (with_reducible first | refine zq1 fun _ => ?_ | refine zq2 fun _ => ?_ | refine zq3 ?_) | ((first | refine zq4 ?_ | refine zq5 fun _ _ => ?_ | refine zq6 ?_); simp [-getElem?_pos, z0, z1, z2, h0]) | ((first | refine AWp.ret ?_ | refine AWp.skip ?_ | refine AWp.exit ?_); try simp only [thenP]) | (with_reducible refine zq7 ?_; simp only [blockP, thenP, reduceIte]) | with_reducible refine zq8 ?_)
    (first | refine RR.ret ?_ | refine RR.normal ?_); simp [h0]
end Go.Proofs.Ytcmkkgdjhjpldaa.Eng

namespace Go.Proofs.Ytcmkkgdjhjpldaa.Eng
open Go.RowKit
theorem okS_bad {l : List HS} {k : Nat} {s : HS} (hs : l[k]? = some s) (h : ¬ ((0 ≤ s.grit ∧ s.grit ≤ 100) ∧ (0 ≤ s.cut ∧ s.cut ≤ 100) ∧ -6 ≤ s.burr ∧ s.burr ≤ 6)) : l.all okS = false :=
  allK_not hs (by rw [okS_eq]; exact decide_eq_false h)
set_option maxRecDepth 100000 in
set_option maxHeartbeats 8000000 in
theorem refCheckBox_c (l : List HS) : ACall Try.prog 20 [boxD l] (iD (boxErr l)) := by
  obtain ⟨r, hr⟩ : ∃ r, r = boxErr l := ⟨_, rfl⟩
  rw [← hr]
  unfold boxErr at hr
  by_cases g1 : l.length < 1
  · have g1' : (l.length : Int) < 1 := by omega
    rw [if_pos (Or.inl g1)] at hr
    have g0 : l = [] := List.eq_nil_of_length_eq_zero (by omega)
    refine acallK tabOk Try.func20 rfl rfl (show 1 ≤ _ by decide) rfl fun _ => ?_; simp only [Try.ntmps20]
    repeat (first | (with_reducible first | refine zq1 fun _ => ?_ | refine zq2 fun _ => ?_ | refine zq3 ?_) | ((first | refine zq4 ?_ | refine zq5 fun _ _ => ?_ | refine zq6 ?_); simp [-getElem?_pos, z0, z1, z2, g1, g1', g0]) | ((first | refine AWp.ret ?_ | refine AWp.skip ?_ | refine AWp.exit ?_); try simp only [thenP]) | (with_reducible refine zq7 ?_; simp only [blockP, thenP, reduceIte]) | with_reducible refine zq8 ?_)
    (first | refine RR.ret ?_ | refine RR.normal ?_); simp [hr]
  have g1' : ¬ (l.length : Int) < 1 := by omega
  have g0 : ¬ l = [] := fun h => g1 (by simp [h])
  by_cases g2 : 6 < l.length
  · have g2' : (6 : Int) < l.length := by omega
    rw [if_pos (Or.inr g2)] at hr
    refine acallK tabOk Try.func20 rfl rfl (show 1 ≤ _ by decide) rfl fun _ => ?_; simp only [Try.ntmps20]
    repeat (first | (with_reducible first | refine zq1 fun _ => ?_ | refine zq2 fun _ => ?_ | refine zq3 ?_) | ((first | refine zq4 ?_ | refine zq5 fun _ _ => ?_ | refine zq6 ?_); simp [-getElem?_pos, z0, z1, z2, g1, g1', g0, g2, g2']) | ((first | refine AWp.ret ?_ | refine AWp.skip ?_ | refine AWp.exit ?_); try simp only [thenP]) | (with_reducible refine zq7 ?_; simp only [blockP, thenP, reduceIte]) | with_reducible refine zq8 ?_)
    (first | refine RR.ret ?_ | refine RR.normal ?_); simp [hr]
  have g2' : ¬ (6 : Int) < l.length := by omega
  rw [if_neg (by omega)] at hr
  refine acallK tabOk Try.func20 rfl rfl (show 1 ≤ _ by decide) rfl fun _ => ?_; simp only [Try.ntmps20]
  repeat (first | (with_reducible first | refine zq1 fun _ => ?_ | refine zq2 fun _ => ?_ | refine zq3 ?_) | ((first | refine zq4 ?_ | refine zq5 fun _ _ => ?_ | refine zq6 ?_); simp [-getElem?_pos, z0, z1, z2, g1, g1', g0, g2, g2']) | ((first | refine AWp.ret ?_ | refine AWp.skip ?_ | refine AWp.exit ?_); try simp only [thenP]) | (with_reducible refine zq7 ?_; simp only [blockP, thenP, reduceIte]) | with_reducible refine zq8 ?_)
  refine AWp.loopK (ι := { k : Nat // k ≤ l.length ∧ (l.take k).all okS = true }) (n := 0) (fun k => [(0, .d (boxD l)), (3, .d (iD k.1))]) (fun _ => []) (fun k => l.length - k.1) ⟨0, Nat.zero_le _, by simp⟩ [] ?_ ?_
  · refine ⟨by rfl, by simp [], by simp [or_imp, forall_and, ] <;> (try (intro _hne; simp [_hne])), by decide⟩
  rintro ⟨k, hk, hall⟩ kk
  have w1 : IntKind.i64.wrap ((k : Int) + 1) = (k : Int) + 1 := wrap64_in (by omega)
  by_cases hlt : k < l.length
  · obtain ⟨t, ht⟩ : ∃ t, l[k]? = some t := ⟨_, List.getElem?_eq_getElem hlt⟩
    have bad : ¬ ((0 ≤ t.grit ∧ t.grit ≤ 100) ∧ (0 ≤ t.cut ∧ t.cut ≤ 100) ∧ -6 ≤ t.burr ∧ t.burr ≤ 6) → r = 3 := fun h => by rw [hr, okS_bad ht h]; rfl
    by_cases h1 : t.grit < 0
    · have hr' := bad (by omega)
      repeat (first | (with_reducible first | refine zq1 fun _ => ?_ | refine zq2 fun _ => ?_ | refine zq3 ?_) | ((first | refine zq4 ?_ | refine zq5 fun _ _ => ?_ | refine zq6 ?_); simp [-getElem?_pos, z0, z1, z2, hlt, ht, h1]) | ((first | refine AWp.ret ?_ | refine AWp.skip ?_ | refine AWp.exit ?_); try simp only [thenP]) | (with_reducible refine zq7 ?_; simp only [blockP, thenP, reduceIte]) | with_reducible refine zq8 ?_)
      (first | refine RR.ret ?_ | refine RR.normal ?_); simp [hr']
    by_cases h2 : 100 < t.grit
    · have hr' := bad (by omega)
      repeat (first | (with_reducible first | refine zq1 fun _ => ?_ | refine zq2 fun _ => ?_ | refine zq3 ?_) | ((first | refine zq4 ?_ | refine zq5 fun _ _ => ?_ | refine zq6 ?_); simp [-getElem?_pos, z0, z1, z2, hlt, ht, h1, h2]) | ((first | refine AWp.ret ?_ | refine AWp.skip ?_ | refine AWp.exit ?_); try simp only [thenP]) | (with_reducible refine zq7 ?_; simp only [blockP, thenP, reduceIte]) | with_reducible refine zq8 ?_)
      (first | refine RR.ret ?_ | refine RR.normal ?_); simp [hr']
    by_cases h3 : t.cut < 0
    · have hr' := bad (by omega)
      repeat (first | (with_reducible first | refine zq1 fun _ => ?_ | refine zq2 fun _ => ?_ | refine zq3 ?_) | ((first | refine zq4 ?_ | refine zq5 fun _ _ => ?_ | refine zq6 ?_); simp [-getElem?_pos, z0, z1, z2, hlt, ht, h1, h2, h3]) | ((first | refine AWp.ret ?_ | refine AWp.skip ?_ | refine AWp.exit ?_); try simp only [thenP]) | (with_reducible refine zq7 ?_; simp only [blockP, thenP, reduceIte]) | with_reducible refine zq8 ?_)
      (first | refine RR.ret ?_ | refine RR.normal ?_); simp [hr']
    by_cases h4 : 100 < t.cut
    · have hr' := bad (by omega)
      repeat (first | (with_reducible first | refine zq1 fun _ => ?_ | refine zq2 fun _ => ?_ | refine zq3 ?_) | ((first | refine zq4 ?_ | refine zq5 fun _ _ => ?_ | refine zq6 ?_); simp [-getElem?_pos, z0, z1, z2, hlt, ht, h1, h2, h3, h4]) | ((first | refine AWp.ret ?_ | refine AWp.skip ?_ | refine AWp.exit ?_); try simp only [thenP]) | (with_reducible refine zq7 ?_; simp only [blockP, thenP, reduceIte]) | with_reducible refine zq8 ?_)
      (first | refine RR.ret ?_ | refine RR.normal ?_); simp [hr']
    by_cases h5 : t.burr < -6
    · have hr' := bad (by omega)
      repeat (first | (with_reducible first | refine zq1 fun _ => ?_ | refine zq2 fun _ => ?_ | refine zq3 ?_) | ((first | refine zq4 ?_ | refine zq5 fun _ _ => ?_ | refine zq6 ?_); simp [-getElem?_pos, z0, z1, z2, hlt, ht, h1, h2, h3, h4, h5]) | ((first | refine AWp.ret ?_ | refine AWp.skip ?_ | refine AWp.exit ?_); try simp only [thenP]) | (with_reducible refine zq7 ?_; simp only [blockP, thenP, reduceIte]) | with_reducible refine zq8 ?_)
      (first | refine RR.ret ?_ | refine RR.normal ?_); simp [hr']
    by_cases h6 : 6 < t.burr
    · have hr' := bad (by omega)
      repeat (first | (with_reducible first | refine zq1 fun _ => ?_ | refine zq2 fun _ => ?_ | refine zq3 ?_) | ((first | refine zq4 ?_ | refine zq5 fun _ _ => ?_ | refine zq6 ?_); simp [-getElem?_pos, z0, z1, z2, hlt, ht, h1, h2, h3, h4, h5, h6]) | ((first | refine AWp.ret ?_ | refine AWp.skip ?_ | refine AWp.exit ?_); try simp only [thenP]) | (with_reducible refine zq7 ?_; simp only [blockP, thenP, reduceIte]) | with_reducible refine zq8 ?_)
      (first | refine RR.ret ?_ | refine RR.normal ?_); simp [hr']
    have hall2 : (l.take (k + 1)).all okS = true := by
      rw [allK_take ht, hall, okS_eq, Bool.true_and]
      exact decide_eq_true ⟨⟨by omega, by omega⟩, ⟨by omega, by omega⟩, by omega, by omega⟩
    repeat (first | (with_reducible first | refine zq1 fun _ => ?_ | refine zq2 fun _ => ?_ | refine zq3 ?_) | ((first | refine zq4 ?_ | refine zq5 fun _ _ => ?_ | refine zq6 ?_); simp [-getElem?_pos, z0, z1, z2, hlt, ht, h1, h2, h3, h4, h5, h6, w1]) | ((first | refine AWp.ret ?_ | refine AWp.skip ?_ | refine AWp.exit ?_); try simp only [thenP]) | (with_reducible refine zq7 ?_; simp only [blockP, thenP, reduceIte]) | with_reducible refine zq8 ?_)
    refine LL.go ⟨k + 1, hlt, hall2⟩ [] ⟨by rfl, by simp [], by simp [or_imp, forall_and, ] <;> (try (intro _hne; simp [_hne])), by decide⟩ ?_
    simp; omega
  · obtain rfl : k = l.length := by omega
    rw [List.take_of_length_le (Nat.le_refl _)] at hall
    have hr' : r = 0 := by rw [hr, hall]; rfl
    repeat (first | (with_reducible first | refine zq1 fun _ => ?_ | refine zq2 fun _ => ?_ | refine zq3 ?_) | ((first | refine zq4 ?_ | refine zq5 fun _ _ => ?_ | refine zq6 ?_); simp [-getElem?_pos, z0, z1, z2, hlt]) | ((first | refine AWp.ret ?_ | refine AWp.skip ?_ | refine AWp.exit ?_); try simp only [thenP]) | (with_reducible refine zq7 ?_; simp only [blockP, thenP, reduceIte]) | with_reducible refine zq8 ?_)
    (first | refine RR.ret ?_ | refine RR.normal ?_); simp [hr']
set_option maxRecDepth 100000 in
set_option maxHeartbeats 4000000 in
theorem refIsEdge_c (e : HE) : ACall Try.prog 45 [edgD e] (bD (okE e)) := by
  obtain ⟨r, hr⟩ : ∃ r, r = okE e := ⟨_, rfl⟩
  rw [← hr]
  rw [okE_eq] at hr
  have bad : ¬ ((0 ≤ e.depth ∧ e.depth ≤ 100) ∧ 0 ≤ e.burr ∧ e.burr ≤ 6) → r = false := fun h => hr.trans (decide_eq_false h)
  by_cases h1 : 0 ≤ e.depth
  · by_cases h2 : e.depth ≤ 100
    · by_cases h3 : 0 ≤ e.burr
      · have hr' : r = decide (e.burr ≤ 6) := by rw [hr]; simp [h1, h2, h3]
        refine acallK tabOk Try.func45 rfl rfl (show 1 ≤ _ by decide) rfl fun _ => ?_; simp only [Try.ntmps45]
        repeat (first | (with_reducible first | refine zq1 fun _ => ?_ | refine zq2 fun _ => ?_ | refine zq3 ?_) | ((first | refine zq4 ?_ | refine zq5 fun _ _ => ?_ | refine zq6 ?_); simp [-getElem?_pos, z0, z1, z2, h1, h2, h3]) | ((first | refine AWp.ret ?_ | refine AWp.skip ?_ | refine AWp.exit ?_); try simp only [thenP]) | (with_reducible refine zq7 ?_; simp only [blockP, thenP, reduceIte]) | with_reducible refine zq8 ?_)
        (first | refine RR.ret ?_ | refine RR.normal ?_); simp [hr']
      · have hr' := bad (by omega)
        refine acallK tabOk Try.func45 rfl rfl (show 1 ≤ _ by decide) rfl fun _ => ?_; simp only [Try.ntmps45]
        repeat (first | (with_reducible first | refine zq1 fun _ => ?_ | refine zq2 fun _ => ?_ | refine zq3 ?_) | ((first | refine zq4 ?_ | refine zq5 fun _ _ => ?_ | refine zq6 ?_); simp [-getElem?_pos, z0, z1, z2, h1, h2, h3]) | ((first | refine AWp.ret ?_ | refine AWp.skip ?_ | refine AWp.exit ?_); try simp only [thenP]) | (with_reducible refine zq7 ?_; simp only [blockP, thenP, reduceIte]) | with_reducible refine zq8 ?_)
        (first | refine RR.ret ?_ | refine RR.normal ?_); simp [hr']
    · have hr' := bad (by omega)
      refine acallK tabOk Try.func45 rfl rfl (show 1 ≤ _ by decide) rfl fun _ => ?_; simp only [Try.ntmps45]
      repeat (first | (with_reducible first | refine zq1 fun _ => ?_ | refine zq2 fun _ => ?_ | refine zq3 ?_) | ((first | refine zq4 ?_ | refine zq5 fun _ _ => ?_ | refine zq6 ?_); simp [-getElem?_pos, z0, z1, z2, h1, h2]) | ((first | refine AWp.ret ?_ | refine AWp.skip ?_ | refine AWp.exit ?_); try simp only [thenP]) | (with_reducible refine zq7 ?_; simp only [blockP, thenP, reduceIte]) | with_reducible refine zq8 ?_)
      (first | refine RR.ret ?_ | refine RR.normal ?_); simp [hr']
  · have hr' := bad (by omega)
    refine acallK tabOk Try.func45 rfl rfl (show 1 ≤ _ by decide) rfl fun _ => ?_; simp only [Try.ntmps45]
    repeat (first | (with_reducible first | refine zq1 fun _ => ?_ | refine zq2 fun _ => ?_ | refine zq3 ?_) | ((first | refine zq4 ?_ | refine zq5 fun _ _ => ?_ | refine zq6 ?_); simp [-getElem?_pos, z0, z1, z2, h1]) | ((first | refine AWp.ret ?_ | refine AWp.skip ?_ | refine AWp.exit ?_); try simp only [thenP]) | (with_reducible refine zq7 ?_; simp only [blockP, thenP, reduceIte]) | with_reducible refine zq8 ?_)
    (first | refine RR.ret ?_ | refine RR.normal ?_); simp [hr']
set_option maxRecDepth 100000 in
set_option maxHeartbeats 4000000 in
theorem refStroke_c (s : HS) (e : HE) (gs : GoodS s) (ge : GoodE e) : ACall Try.prog 58 [stnD s, edgD e] (.tup [edgD (strR s e), bD (canS s e)]) := by
  obtain ⟨h1, h2, h3, h4⟩ := ge
  obtain ⟨g1, g2, g3, g4, g5, g6⟩ := gs
  have w1 : IntKind.i64.wrap (e.burr + s.burr) = e.burr + s.burr := wrap64_in (by omega)
  have w2 : IntKind.i64.wrap (e.depth - s.cut) = e.depth - s.cut := wrap64_in (by omega)
  have m1 : (if s.grit < e.depth - s.cut then e.depth - s.cut else s.grit) = max s.grit (e.depth - s.cut) := by split <;> omega
  have m2 : (if 0 < e.burr + s.burr then e.burr + s.burr else 0) = max 0 (e.burr + s.burr) := by split <;> omega
  by_cases g : 6 < e.burr + s.burr
  · have hc : canS s e = false := decide_eq_false (by omega)
    rw [strR, hc]
    refine acallK tabOk Try.func58 rfl rfl (show 2 ≤ _ by decide) rfl fun _ => ?_; simp only [Try.ntmps58]
    repeat (first | (with_reducible first | refine zq1 fun _ => ?_ | refine zq2 fun _ => ?_ | refine zq3 ?_) | ((first | refine zq4 ?_ | refine zq5 fun _ _ => ?_ | refine zq6 ?_); simp [-getElem?_pos, z0, z1, z2, w1, w2, g]) | ((first | refine AWp.ret ?_ | refine AWp.skip ?_ | refine AWp.exit ?_); try simp only [thenP]) | (with_reducible refine zq7 ?_; simp only [blockP, thenP, reduceIte]) | with_reducible refine zq8 ?_)
    (first | refine RR.ret ?_ | refine RR.normal ?_); simp []
  · have hc : canS s e = true := decide_eq_true (by omega)
    rw [strR, hc]
    refine acallK tabOk Try.func58 rfl rfl (show 2 ≤ _ by decide) rfl fun _ => ?_; simp only [Try.ntmps58]
    repeat (first | (with_reducible first | refine zq1 fun _ => ?_ | refine zq2 fun _ => ?_ | refine zq3 ?_) | ((first | refine zq4 ?_ | refine zq5 fun _ _ => ?_ | refine zq6 ?_); simp [-getElem?_pos, z0, z1, z2, w1, w2, g]) | ((first | refine AWp.ret ?_ | refine AWp.skip ?_ | refine AWp.exit ?_); try simp only [thenP]) | (with_reducible refine zq7 ?_; simp only [blockP, thenP, reduceIte]) | with_reducible refine zq8 ?_)
    (first | refine RR.ret ?_ | refine RR.normal ?_); simp [strE, m1, m2]
theorem chkErr_b {l : List HS} {es : List HE} (h : boxErr l ≠ 0) : chkErr l es = boxErr l := if_neg h
theorem chkErr_e {l : List HS} {e1 e2 : HE} (h : boxErr l = 0) : chkErr l [e1, e2] = if okE e1 && okE e2 then 0 else 2 := by
  rw [chkErr, if_pos h]
  simp
set_option maxRecDepth 100000 in
set_option maxHeartbeats 4000000 in
theorem refAsked_c (l : List HS) (e1 e2 : HE) : ACall Try.prog 52 [boxD l, edgD e1, edgD e2] (iD (chkErr l [e1, e2])) := by
  obtain ⟨r, hr⟩ : ∃ r, r = chkErr l [e1, e2] := ⟨_, rfl⟩
  rw [← hr]
  have cb := refCheckBox_c l
  have c1 := refIsEdge_c e1
  have c2 := refIsEdge_c e2
  by_cases h0 : boxErr l = 0
  · rw [chkErr_e h0] at hr
    rw [h0] at cb
    rcases g1 : okE e1 <;> rw [g1] at c1 hr
    · have hr' : r = 2 := hr
      refine acallK tabOk Try.func52 rfl rfl (show 3 ≤ _ by decide) rfl fun _ => ?_; simp only [Try.ntmps52]
      repeat (first | (with_reducible first | refine zq1 fun _ => ?_ | refine zq2 fun _ => ?_ | refine zq3 ?_) | ((first | refine zq4 ?_ | refine zq5 fun _ _ => ?_ | refine zq6 ?_); simp [-getElem?_pos, z0, z1, z2, ]) | ((first | refine AWp.ret ?_ | refine AWp.skip ?_ | refine AWp.exit ?_); try simp only [thenP]) | (with_reducible refine zq7 ?_; simp only [blockP, thenP, reduceIte]) | with_reducible refine zq8 ?_)
      (first | refine Exec0.call [] cb ?_ rfl ?_ ?_ | refine Exec.call [] cb ?_ rfl ?_ ?_); (focus simp [-getElem?_pos, ]); (focus simp [-getElem?_pos, z0, z1, z2, ]); simp [-getElem?_pos, z0, z1, z2, ]
      repeat (first | (with_reducible first | refine zq1 fun _ => ?_ | refine zq2 fun _ => ?_ | refine zq3 ?_) | ((first | refine zq4 ?_ | refine zq5 fun _ _ => ?_ | refine zq6 ?_); simp [-getElem?_pos, z0, z1, z2, ]) | ((first | refine AWp.ret ?_ | refine AWp.skip ?_ | refine AWp.exit ?_); try simp only [thenP]) | (with_reducible refine zq7 ?_; simp only [blockP, thenP, reduceIte]) | with_reducible refine zq8 ?_)
      (first | refine Exec0.call [] c1 ?_ rfl ?_ ?_ | refine Exec.call [] c1 ?_ rfl ?_ ?_); (focus simp [-getElem?_pos, ]); (focus simp [-getElem?_pos, z0, z1, z2, ]); simp [-getElem?_pos, z0, z1, z2, ]
      repeat (first | (with_reducible first | refine zq1 fun _ => ?_ | refine zq2 fun _ => ?_ | refine zq3 ?_) | ((first | refine zq4 ?_ | refine zq5 fun _ _ => ?_ | refine zq6 ?_); simp [-getElem?_pos, z0, z1, z2, ]) | ((first | refine AWp.ret ?_ | refine AWp.skip ?_ | refine AWp.exit ?_); try simp only [thenP]) | (with_reducible refine zq7 ?_; simp only [blockP, thenP, reduceIte]) | with_reducible refine zq8 ?_)
      (first | refine RR.ret ?_ | refine RR.normal ?_); simp [hr']
    · rcases g2 : okE e2 <;> rw [g2] at c2 hr
      · have hr' : r = 2 := hr
        refine acallK tabOk Try.func52 rfl rfl (show 3 ≤ _ by decide) rfl fun _ => ?_; simp only [Try.ntmps52]
        repeat (first | (with_reducible first | refine zq1 fun _ => ?_ | refine zq2 fun _ => ?_ | refine zq3 ?_) | ((first | refine zq4 ?_ | refine zq5 fun _ _ => ?_ | refine zq6 ?_); simp [-getElem?_pos, z0, z1, z2, ]) | ((first | refine AWp.ret ?_ | refine AWp.skip ?_ | refine AWp.exit ?_); try simp only [thenP]) | (with_reducible refine zq7 ?_; simp only [blockP, thenP, reduceIte]) | with_reducible refine zq8 ?_)
        (first | refine Exec0.call [] cb ?_ rfl ?_ ?_ | refine Exec.call [] cb ?_ rfl ?_ ?_); (focus simp [-getElem?_pos, ]); (focus simp [-getElem?_pos, z0, z1, z2, ]); simp [-getElem?_pos, z0, z1, z2, ]
        repeat (first | (with_reducible first | refine zq1 fun _ => ?_ | refine zq2 fun _ => ?_ | refine zq3 ?_) | ((first | refine zq4 ?_ | refine zq5 fun _ _ => ?_ | refine zq6 ?_); simp [-getElem?_pos, z0, z1, z2, ]) | ((first | refine AWp.ret ?_ | refine AWp.skip ?_ | refine AWp.exit ?_); try simp only [thenP]) | (with_reducible refine zq7 ?_; simp only [blockP, thenP, reduceIte]) | with_reducible refine zq8 ?_)
        (first | refine Exec0.call [] c1 ?_ rfl ?_ ?_ | refine Exec.call [] c1 ?_ rfl ?_ ?_); (focus simp [-getElem?_pos, ]); (focus simp [-getElem?_pos, z0, z1, z2, ]); simp [-getElem?_pos, z0, z1, z2, ]
        repeat (first | (with_reducible first | refine zq1 fun _ => ?_ | refine zq2 fun _ => ?_ | refine zq3 ?_) | ((first | refine zq4 ?_ | refine zq5 fun _ _ => ?_ | refine zq6 ?_); simp [-getElem?_pos, z0, z1, z2, ]) | ((first | refine AWp.ret ?_ | refine AWp.skip ?_ | refine AWp.exit ?_); try simp only [thenP]) | (with_reducible refine zq7 ?_; simp only [blockP, thenP, reduceIte]) | with_reducible refine zq8 ?_)
        (first | refine Exec0.call [] c2 ?_ rfl ?_ ?_ | refine Exec.call [] c2 ?_ rfl ?_ ?_); (focus simp [-getElem?_pos, ]); (focus simp [-getElem?_pos, z0, z1, z2, ]); simp [-getElem?_pos, z0, z1, z2, ]
        repeat (first | (with_reducible first | refine zq1 fun _ => ?_ | refine zq2 fun _ => ?_ | refine zq3 ?_) | ((first | refine zq4 ?_ | refine zq5 fun _ _ => ?_ | refine zq6 ?_); simp [-getElem?_pos, z0, z1, z2, ]) | ((first | refine AWp.ret ?_ | refine AWp.skip ?_ | refine AWp.exit ?_); try simp only [thenP]) | (with_reducible refine zq7 ?_; simp only [blockP, thenP, reduceIte]) | with_reducible refine zq8 ?_)
        (first | refine RR.ret ?_ | refine RR.normal ?_); simp [hr']
      · have hr' : r = 0 := hr
        refine acallK tabOk Try.func52 rfl rfl (show 3 ≤ _ by decide) rfl fun _ => ?_; simp only [Try.ntmps52]
        repeat (first | (with_reducible first | refine zq1 fun _ => ?_ | refine zq2 fun _ => ?_ | refine zq3 ?_) | ((first | refine zq4 ?_ | refine zq5 fun _ _ => ?_ | refine zq6 ?_); simp [-getElem?_pos, z0, z1, z2, ]) | ((first | refine AWp.ret ?_ | refine AWp.skip ?_ | refine AWp.exit ?_); try simp only [thenP]) | (with_reducible refine zq7 ?_; simp only [blockP, thenP, reduceIte]) | with_reducible refine zq8 ?_)
        (first | refine Exec0.call [] cb ?_ rfl ?_ ?_ | refine Exec.call [] cb ?_ rfl ?_ ?_); (focus simp [-getElem?_pos, ]); (focus simp [-getElem?_pos, z0, z1, z2, ]); simp [-getElem?_pos, z0, z1, z2, ]
        repeat (first | (with_reducible first | refine zq1 fun _ => ?_ | refine zq2 fun _ => ?_ | refine zq3 ?_) | ((first | refine zq4 ?_ | refine zq5 fun _ _ => ?_ | refine zq6 ?_); simp [-getElem?_pos, z0, z1, z2, ]) | ((first | refine AWp.ret ?_ | refine AWp.skip ?_ | refine AWp.exit ?_); try simp only [thenP]) | (with_reducible refine zq7 ?_; simp only [blockP, thenP, reduceIte]) | with_reducible refine zq8 ?_)
        (first | refine Exec0.call [] c1 ?_ rfl ?_ ?_ | refine Exec.call [] c1 ?_ rfl ?_ ?_); (focus simp [-getElem?_pos, ]); (focus simp [-getElem?_pos, z0, z1, z2, ]); simp [-getElem?_pos, z0, z1, z2, ]
        repeat (first | (with_reducible first | refine zq1 fun _ => ?_ | refine zq2 fun _ => ?_ | refine zq3 ?_) | ((first | refine zq4 ?_ | refine zq5 fun _ _ => ?_ | refine zq6 ?_); simp [-getElem?_pos, z0, z1, z2, ]) | ((first | refine AWp.ret ?_ | refine AWp.skip ?_ | refine AWp.exit ?_); try simp only [thenP]) | (with_reducible refine zq7 ?_; simp only [blockP, thenP, reduceIte]) | with_reducible refine zq8 ?_)
        (first | refine Exec0.call [] c2 ?_ rfl ?_ ?_ | refine Exec.call [] c2 ?_ rfl ?_ ?_); (focus simp [-getElem?_pos, ]); (focus simp [-getElem?_pos, z0, z1, z2, ]); simp [-getElem?_pos, z0, z1, z2, ]
        repeat (first | (with_reducible first | refine zq1 fun _ => ?_ | refine zq2 fun _ => ?_ | refine zq3 ?_) | ((first | refine zq4 ?_ | refine zq5 fun _ _ => ?_ | refine zq6 ?_); simp [-getElem?_pos, z0, z1, z2, ]) | ((first | refine AWp.ret ?_ | refine AWp.skip ?_ | refine AWp.exit ?_); try simp only [thenP]) | (with_reducible refine zq7 ?_; simp only [blockP, thenP, reduceIte]) | with_reducible refine zq8 ?_)
        (first | refine RR.ret ?_ | refine RR.normal ?_); simp [hr']
  · have hr' : r = boxErr l := hr.trans (chkErr_b h0)
    rw [hr']
    generalize boxErr l = b at *
    refine acallK tabOk Try.func52 rfl rfl (show 3 ≤ _ by decide) rfl fun _ => ?_; simp only [Try.ntmps52]
    repeat (first | (with_reducible first | refine zq1 fun _ => ?_ | refine zq2 fun _ => ?_ | refine zq3 ?_) | ((first | refine zq4 ?_ | refine zq5 fun _ _ => ?_ | refine zq6 ?_); simp [-getElem?_pos, z0, z1, z2, ]) | ((first | refine AWp.ret ?_ | refine AWp.skip ?_ | refine AWp.exit ?_); try simp only [thenP]) | (with_reducible refine zq7 ?_; simp only [blockP, thenP, reduceIte]) | with_reducible refine zq8 ?_)
    (first | refine Exec0.call [] cb ?_ rfl ?_ ?_ | refine Exec.call [] cb ?_ rfl ?_ ?_); (focus simp [-getElem?_pos, h0]); (focus simp [-getElem?_pos, z0, z1, z2, h0]); simp [-getElem?_pos, z0, z1, z2, h0]
    repeat (first | (with_reducible first | refine zq1 fun _ => ?_ | refine zq2 fun _ => ?_ | refine zq3 ?_) | ((first | refine zq4 ?_ | refine zq5 fun _ _ => ?_ | refine zq6 ?_); simp [-getElem?_pos, z0, z1, z2, h0]) | ((first | refine AWp.ret ?_ | refine AWp.skip ?_ | refine AWp.exit ?_); try simp only [thenP]) | (with_reducible refine zq7 ?_; simp only [blockP, thenP, reduceIte]) | with_reducible refine zq8 ?_)
    (first | refine Exec0.call [] cb ?_ rfl ?_ ?_ | refine Exec.call [] cb ?_ rfl ?_ ?_); (focus simp [-getElem?_pos, ]); (focus simp [-getElem?_pos, z0, z1, z2, ]); simp [-getElem?_pos, z0, z1, z2, ]
    repeat (first | (with_reducible first | refine zq1 fun _ => ?_ | refine zq2 fun _ => ?_ | refine zq3 ?_) | ((first | refine zq4 ?_ | refine zq5 fun _ _ => ?_ | refine zq6 ?_); simp [-getElem?_pos, z0, z1, z2, ]) | ((first | refine AWp.ret ?_ | refine AWp.skip ?_ | refine AWp.exit ?_); try simp only [thenP]) | (with_reducible refine zq7 ?_; simp only [blockP, thenP, reduceIte]) | with_reducible refine zq8 ?_)
    (first | refine RR.ret ?_ | refine RR.normal ?_); simp []
end Go.Proofs.Ytcmkkgdjhjpldaa.Eng

namespace Go.Proofs.Ytcmkkgdjhjpldaa.Eng
open Go.RowKit
variable {P : Program} {T : Tab} {r : Option Nat} {ns : Nat}
def slF (l : List Oper) (res : Nat → SV) (f0 : Nat → SV) (L : Nat → Bool) : Nat → Nat → SV
  | 0 => f0
  | k + 1 => match l[k]? with
    | some o => if L k = true then setSlot (slF l res f0 L k) o.dst (res k) else slF l res f0 L k
    | none => slF l res f0 L k
theorem setSlot_at (f : Nat → SV) (d : Option Nat) (x : SV) (t : Nat) : setSlot f d x t = if d = some t then x else f t := by
  cases d with
  | none => simp [setSlot]
  | some d => simp [setSlot, eq_comm]
section
variable {l : List Oper} {res : Nat → SV} {f0 : Nat → SV}
theorem slF_at {L M : Nat → Bool} {t : Nat} (h : ∀ k o, l[k]? = some o → o.dst = some t → L k = M k) : ∀ k, slF l res f0 L k t = slF l res f0 M k t
  | 0 => rfl
  | k + 1 => by
    simp only [slF]
    cases ho : l[k]? with
    | none => exact slF_at h k
    | some o =>
      simp only
      have ih := slF_at h k
      by_cases hd : o.dst = some t
      · rw [h k o ho hd]
        split
        · rw [setSlot_at, setSlot_at, if_pos hd, if_pos hd]
        · exact ih
      · have e : ∀ f : Nat → SV, setSlot f o.dst (res k) t = f t := fun f => by rw [setSlot_at, if_neg hd]
        split
        · split
          · rw [e, e]; exact ih
          · rw [e]; exact ih
        · split
          · rw [e]; exact ih
          · exact ih
end
end Go.Proofs.Ytcmkkgdjhjpldaa.Eng

noncomputable section
namespace Go.Proofs.Ytcmkkgdjhjpldaa.Eng
open Go.RowKit
inductive Tr (α : Type) where
  | lf
  | nd (v : Option α) (l r : Tr α)
inductive Pa where
  | e
  | l (p : Pa)
  | r (p : Pa)
  deriving DecidableEq
def Pa.upTo (f : Nat) : Nat → Pa :=
  @Nat.rec (fun _ => Nat → Pa) (fun _ => .e) (fun _ ih i => @Bool.rec (fun _ => Pa) (@Bool.rec (fun _ => Pa) (.r (ih (Nat.sub (Nat.div i 2) 1))) (.l (ih (Nat.div i 2))) (Nat.beq (Nat.mod i 2) 1)) .e (Nat.beq i 0)) f
def Pa.of (i : Nat) : Pa := Pa.upTo i i
def Tr.at_ {α : Type} (t : Tr α) : Pa → Option α :=
  @Tr.rec α (fun _ => Pa → Option α) (fun _ => none) (fun v _ _ gl gr p => @Pa.rec (fun _ => Option α) v (fun p _ => gl p) (fun p _ => gr p) p) t
def Tr.get {α : Type} (t : Tr α) (i : Nat) : Option α := Tr.at_ t (Pa.of i)
def getN : List SV → Nat → Option SV
  | [], _ => none
  | x :: l, i => match i with
    | 0 => some x
    | j + 1 => getN l j
def upN : Nat → Nat → List Nat
  | 0, _ => []
  | n + 1, j => j :: upN n (j + 1)
theorem upN_len : ∀ (n j : Nat), (upN n j).length = n
  | 0, _ => rfl
  | n + 1, j => by simp [upN, upN_len n]
theorem upN_get : ∀ (n j i : Nat), (upN n j)[i]? = if i < n then some (j + i) else none
  | 0, j, i => by simp [upN]
  | n + 1, j, 0 => by simp [upN]
  | n + 1, j, i + 1 => by
    simp only [upN, List.getElem?_cons_succ, upN_get n (j + 1) i]
    by_cases h : i < n
    · rw [if_pos h, if_pos (by omega)]; congr 1; omega
    · rw [if_neg h, if_neg (by omega)]
def cellAt (d : List SV) (t : Tr SV) (i : Nat) : SV := match t.get i with
  | some x => x
  | none => (getN d (i % d.length)).getD .und
def cellsOf (n : Nat) (d : List SV) (t : Tr SV) (j : Nat) : List SV := (upN n j).map (cellAt d t)
def keyVal (agg : Bool) (ks : List IntKind) (ns : List Int) : Value := if agg then aggInts ks ns else match ks, ns with
  | k :: _, n :: _ => .int k n
  | _, _ => undef
inductive CB where
  | b (x : Blk)
  | bx (wh : Option Nat) (ty : TypeId) (n : Nat) (d : List SV) (t : Tr SV) (f : Bool)
  | mp (agg : Bool) (kk : List IntKind) (es : List (List Int × SV × Nat)) (clock : Nat)
  | loop (st : LoopState) (pe : Option Code) (ns : Nat) (sl : Tr SV) (ps : Array Tmp) (x y : Code)
def sOf (t : Tr SV) : Nat → SV := fun i => (t.get i).getD .und
def CB.den : CB → Blk
  | .b x => x
  | .bx none ty n d t f => .box ty (cellsOf n d t 0) f
  | .bx (some z) ty n d t f => .part z ty (cellsOf n d t 0) f
  | .mp agg kk es clock => .map (es.map fun q => (keyVal agg kk q.1, q.2)) clock false
  | .loop st pe ns sl ps x y => .loop st pe ns (sOf sl) ps x y false
def mOf (t : Tr CB) : Mem := fun i => (t.get i).map CB.den
structure CS where
  n : Nat
  sl : Tr SV
  mem : Tr CB
end Go.Proofs.Ytcmkkgdjhjpldaa.Eng

noncomputable section
namespace Go.Proofs.Ytcmkkgdjhjpldaa.Eng
open Go.RowKit
variable {P : Program} {T : Tab} {W0 : Fix} {R0 : Nat → Prop} {ns : Nat} {D : Nat → Prop} {s : St} {E : Env} {a : Act} {w : World} {m : Tr CB}
def loadC (m : Tr CB) (i : TI) : SV → Option SV
  | .ptr id r j => match m.get id with
    | some (.bx _ _ n d t _) => bif Nat.beq r 0 && Nat.ble (j + i.size) n then mk i.kind.agg (cellsOf i.size d t j) else none
    | _ => loadSV (mOf m) i (.ptr id r j)
  | x => loadSV (mOf m) i x
def indexC (T : Tab) (i : TI) (k : Int) : SV → Option SV
  | .sl id off n _ => match i.kind with
    | .slice e => match T e with
      | some ie => if 0 ≤ k ∧ k < n then some (.ptr id 0 (off + k.toNat * ie.size)) else none
      | none => none
    | _ => none
  | x => indexSV T i k x
theorem indexC_run (hT : TabOk P T) {t : TypeId} {i : TI} (hi : T t = some i) {ik : IntKind} {k : Int} {x r : SV} {v : Value} (h : indexC T i k x = some r) (hx : Rep E w x v) : ∃ z, (Instr.indexAt t v (.int ik k)).run P w = .ok z w ∧ Rep E w r z := by
  unfold indexC at h
  split at h
  · rename_i id off n c
    split at h
    · rename_i e he
      split at h
      · rename_i ie hie
        split at h
        · rename_i hc
          cases h
          cases hx with
          | sl _ _ _ _ o cp hd hcp ho hn =>
            obtain rfl := (ho (.inl (by omega))).symm
            refine ⟨.pointer (some ⟨(E.home id).blk, 0 * (E.home id).esz + (off + k.toNat * ie.size), none⟩), ?_, .ptr _ _ _ hd⟩
            simp [Instr.indexAt, asIntOf, run_underlying (slice_und (hT t i hi) he), hc.1, hc.2, (hT _ _ hie).sizeOf, Addr.add_lit]
        · cases h
      · cases h
    · cases h
  · exact indexAt_run hT hi h hx
inductive Bd : Option Int → Option Value → Prop
  | none : Bd none none
  | some (k : IntKind) (n : Int) : Bd (some n) (some (.int k n))
theorem bnd1 {k : IntKind} {n : Int} {y : Nat} {code : BoundsCode} (h0 : 0 ≤ n) (h1 : n ≤ y) : (Instr.sliceBound (.int k n) y code).run P w = .ok n.toNat w := by
  simp [Instr.sliceBound, asIntOf, h0, h1]
theorem bounds_run {isS : Bool} {len cap : Nat} {lo hi mx : Option Int} {vl vh vm : Option Value} (h1 : Bd lo vl) (h2 : Bd hi vh) (h3 : Bd mx vm) (hm : mx ≠ none → hi ≠ none) (c1 : 0 ≤ lo.getD 0) (c2 : lo.getD 0 ≤ hi.getD len) (c3 : hi.getD len ≤ mx.getD cap) (c4 : mx.getD cap ≤ cap) :
    (Instr.sliceBounds isS len cap vl vh vm).run P w = .ok ((lo.getD 0).toNat, (hi.getD len).toNat, (mx.getD cap).toNat) w := by
  unfold Instr.sliceBounds
  cases h3 with
  | none =>
    simp only [Option.getD_none] at c3 c4 ⊢
    cases h2 with
    | none =>
      simp only [Option.getD_none] at c2 c3 ⊢
      cases h1 with
      | none => simp
      | some k n =>
        simp only [Option.getD_some] at c1 c2 ⊢
        simp [bnd1 (P := P) (w := w) c1 c2]
    | some k2 n2 =>
      simp only [Option.getD_some] at c2 c3 ⊢
      have e : 0 ≤ n2 := by omega
      cases h1 with
      | none => simp [bnd1 (P := P) (w := w) e c3]
      | some k n =>
        simp only [Option.getD_some] at c1 c2 ⊢
        have e2 : n ≤ (n2.toNat : Int) := by omega
        simp [bnd1 (P := P) (w := w) e c3, bnd1 (P := P) (w := w) c1 e2]
  | some k3 n3 =>
    simp only [Option.getD_some] at c3 c4 ⊢
    cases h2 with
    | none => exact absurd rfl (hm (by simp))
    | some k2 n2 =>
      simp only [Option.getD_some] at c2 c3 ⊢
      have e3 : 0 ≤ n2 := by omega
      have e : 0 ≤ n3 := by omega
      have e2 : n2 ≤ (n3.toNat : Int) := by omega
      cases h1 with
      | none => simp [bnd1 (P := P) (w := w) e c4, bnd1 (P := P) (w := w) e3 e2]
      | some k n =>
        simp only [Option.getD_some] at c1 c2 ⊢
        have e4 : n ≤ (n2.toNat : Int) := by omega
        simp [bnd1 (P := P) (w := w) e c4, bnd1 (P := P) (w := w) e3 e2, bnd1 (P := P) (w := w) c1 e4]
def sliceC (T : Tab) (i : TI) (x : SV) (lo hi mx : Option Int) : Option SV :=
  if mx ≠ none ∧ hi = none then none else match i.kind, x with
  | .slice e, .sl id off n c => match T e with
    | some ie => if n = 0 ∧ off ≠ 0 ∧ c = none then none else match mx with
      | some k => if 0 ≤ lo.getD 0 ∧ lo.getD 0 ≤ hi.getD n ∧ hi.getD n ≤ k ∧ k ≤ c.getD n then
          some (.sl id (if k = lo.getD 0 then off else off + (lo.getD 0).toNat * ie.size) ((hi.getD n).toNat - (lo.getD 0).toNat) (some (k.toNat - (lo.getD 0).toNat))) else none
      | none => match c with
        | some c => if 0 ≤ lo.getD 0 ∧ lo.getD 0 ≤ hi.getD n ∧ hi.getD n ≤ c then
            some (.sl id (if c = lo.getD 0 then off else off + (lo.getD 0).toNat * ie.size) ((hi.getD n).toNat - (lo.getD 0).toNat) (some (c - (lo.getD 0).toNat))) else none
        | none => if lo.getD 0 = 0 ∧ 0 ≤ hi.getD n ∧ hi.getD n ≤ n ∧ off = 0 then some (.sl id off (hi.getD n).toNat none)
          else if 0 < lo.getD 0 ∧ lo.getD 0 ≤ hi.getD n ∧ hi.getD n ≤ n then some (.sl id (off + (lo.getD 0).toNat * ie.size) ((hi.getD n).toNat - (lo.getD 0).toNat) none) else none
    | none => none
  | .slice e, .nilS => match T e with
    | some _ => if lo.getD 0 = 0 ∧ hi.getD 0 = 0 ∧ mx.getD 0 = 0 then some .nilS else none
    | none => none
  | .array n e, .ptr id r j => match T e with
    | some ie => if r = 0 ∧ 0 ≤ lo.getD 0 ∧ lo.getD 0 ≤ hi.getD n ∧ hi.getD n ≤ mx.getD n ∧ mx.getD n ≤ n then
        some (.sl id (if mx.getD n = lo.getD 0 then j else j + (lo.getD 0).toNat * ie.size) ((hi.getD n).toNat - (lo.getD 0).toNat) (some ((mx.getD n).toNat - (lo.getD 0).toNat))) else none
    | none => none
  | _, _ => none
theorem sliceC_run (hT : TabOk P T) {t : TypeId} {i : TI} (hi : T t = some i) {lo hi_ mx : Option Int} {vl vh vm : Option Value} (h1 : Bd lo vl) (h2 : Bd hi_ vh) (h3 : Bd mx vm) {x r : SV} {v : Value} (h : sliceC T i x lo hi_ mx = some r) (hx : Rep E w x v) :
    ∃ z, (Instr.sliceAt t v vl vh vm).run P w = .ok z w ∧ Rep E w r z := by
  have hk := hT t i hi
  unfold sliceC at h
  split at h
  · cases h
  rename_i hne
  have hm : mx ≠ none → hi_ ≠ none := fun h4 h5 => hne ⟨h4, h5⟩
  split at h
  · rename_i e id off n c he
    have hu := slice_und hk he
    split at h
    · rename_i ie hie
      have hs := (hT e ie hie).sizeOf w
      cases hx with
      | sl _ _ _ _ o cp hd hcp0 ho0 hn =>
      split at h
      · cases h
      rename_i hlo
      have hlo : 0 < n ∨ off = 0 ∨ c ≠ none := by
        by_cases q : 0 < n ∨ off = 0 ∨ c ≠ none
        · exact q
        · exact absurd (by simp at q; simp [q]) hlo
      obtain rfl := (ho0 hlo).symm
      split at h
      · rename_i k
        split at h
        · rename_i hc
          cases h
          obtain ⟨c1, c2, c3, c4⟩ := hc
          have hcc : k ≤ cp := by
            cases c with
            | none => simp only [Option.getD_none] at c4; omega
            | some c =>
              have hcp := hcp0 (.inr (by simp))
              simp only [Option.getD_some] at c4 hcp
              omega
          have hb := bounds_run (P := P) (w := w) (isS := true) (len := n) (cap := cp) h1 h2 h3 hm c1 c2 (by simpa using c3) (by simpa using hcc)
          simp only [Option.getD_some] at hb
          refine ⟨_, by simp only [Instr.sliceAt, Instr.slice, Sem.run_bind, run_underlying hu, Result.andThen_ok, hb, hs, Sem.run_pure]; rfl, ?_⟩
          have := Rep.slN (E := E) (w := w) id (if k = lo.getD 0 then off else off + (lo.getD 0).toNat * ie.size) ((hi_.getD n).toNat - (lo.getD 0).toNat) (some (k.toNat - (lo.getD 0).toNat)) _ hd rfl (by simp only [Option.getD_some]; omega)
          by_cases hkl : k = lo.getD 0
          · rw [if_pos hkl] at this ⊢
            rw [if_pos (by rw [hkl])]
            exact this
          · rw [if_neg hkl] at this ⊢
            rw [if_neg (by omega)]
            simpa [Addr.add_lit] using this
        · cases h
      split at h
      · rename_i c
        split at h
        · rename_i hc
          cases h
          obtain ⟨c1, c2, c3⟩ := hc
          have hcp := hcp0 (.inr (by simp))
          simp only [Option.getD_some] at hcp
          subst hcp
          have hb := bounds_run (P := P) (w := w) (isS := true) (len := n) (cap := cp) h1 h2 h3 hm c1 c2 (by simpa using c3) (by simp)
          simp only [Option.getD_none] at hb
          refine ⟨_, by simp only [Instr.sliceAt, Instr.slice, Sem.run_bind, run_underlying hu, Result.andThen_ok, hb, hs, Sem.run_pure]; rfl, ?_⟩
          have := Rep.slN (E := E) (w := w) id (if (cp : Int) = lo.getD 0 then off else off + (lo.getD 0).toNat * ie.size) ((hi_.getD n).toNat - (lo.getD 0).toNat) (some (cp - (lo.getD 0).toNat)) _ hd rfl (by simp only [Option.getD_some]; omega)
          by_cases hkl : (cp : Int) = lo.getD 0
          · rw [if_pos hkl] at this ⊢
            rw [if_pos (by omega)]
            simpa using this
          · rw [if_neg hkl] at this ⊢
            rw [if_neg (by omega)]
            simpa [Addr.add_lit] using this
        · cases h
      · split at h
        · rename_i hc
          cases h
          obtain ⟨c1, c2, c3, c4⟩ := hc
          have hcp := hcp0 (.inl c4)
          have hb := bounds_run (P := P) (w := w) (isS := true) (len := n) (cap := cp) h1 h2 h3 hm (by omega) (by omega) (by simp only [Option.getD_none]; omega) (by simp)
          simp only [Option.getD_none] at hb
          refine ⟨_, by simp only [Instr.sliceAt, Instr.slice, Sem.run_bind, run_underlying hu, Result.andThen_ok, hb, hs, Sem.run_pure]; rfl, ?_⟩
          have := Rep.slN (E := E) (w := w) id off (hi_.getD n).toNat none cp hd hcp (by omega)
          rw [c1]
          simpa [Addr.add_lit] using this
        split at h
        · rename_i hc
          cases h
          obtain ⟨c1, c2, c3⟩ := hc
          have hb := bounds_run (P := P) (w := w) (isS := true) (len := n) (cap := cp) h1 h2 h3 hm (by omega) (by omega) (by simp only [Option.getD_none]; omega) (by simp)
          simp only [Option.getD_none] at hb
          refine ⟨_, by simp only [Instr.sliceAt, Instr.slice, Sem.run_bind, run_underlying hu, Result.andThen_ok, hb, hs, Sem.run_pure]; rfl, ?_⟩
          have hsz := (hT e ie hie).pos
          have hpos : 0 < (lo.getD 0).toNat * ie.size := Nat.mul_pos (by omega) hsz
          have := Rep.sl (E := E) (w := w) id (off + (lo.getD 0).toNat * ie.size) ((hi_.getD n).toNat - (lo.getD 0).toNat) none (if cp - (lo.getD 0).toNat = 0 then off else off + (lo.getD 0).toNat * ie.size) (cp - (lo.getD 0).toNat) hd (by rintro (h | h); omega; exact absurd rfl h) (by
            intro h
            have : 0 < (hi_.getD n).toNat - (lo.getD 0).toNat := by
              rcases h with h | h | h
              · exact h
              · omega
              · exact absurd rfl h
            rw [if_neg (by omega)]) (by omega)
          by_cases hkl : cp - (lo.getD 0).toNat = 0
          · rw [if_pos hkl] at this
            rw [if_pos (by omega)]
            simpa using this
          · rw [if_neg hkl] at this
            rw [if_neg (by omega)]
            simpa [Addr.add_lit] using this
        · cases h
    · cases h
  · rename_i e he
    split at h
    · rename_i ie hie
      split at h
      · rename_i hc
        cases h
        obtain ⟨c1, c2, c3⟩ := hc
        cases hx
        have hs := (hT e ie hie).sizeOf w
        have hb := bounds_run (P := P) (w := w) (isS := true) (len := 0) (cap := 0) h1 h2 h3 hm (by omega) (by simp; omega) (by simp; omega) (by simp; omega)
        simp only [Int.ofNat_zero, Int.cast_ofNat_Int] at hb
        rw [c1, c2, c3] at hb
        exact ⟨.slice none 0 0, by simp [Instr.sliceAt, Instr.slice, run_underlying (slice_und hk he), hb, hs], .nilS⟩
      · cases h
    · cases h
  · rename_i n e id rr j he
    split at h
    · rename_i ie hie
      split at h
      · rename_i hc
        obtain ⟨rfl, c1, c2, c3, c4⟩ := hc
        cases h
        cases hx with
        | ptr _ _ _ hd =>
          have hs := (hT e ie hie).sizeOf w
          have hb := bounds_run (P := P) (w := w) (isS := false) (len := n) (cap := n) h1 h2 h3 hm c1 c2 c3 c4
          refine ⟨_, by simp only [Instr.sliceAt, Instr.sureAddr, Sem.run_bind, run_underlying (array_und hk he), Result.andThen_ok, hb, hs, Sem.run_pure]; rfl, ?_⟩
          have := Rep.slN (E := E) (w := w) id (if mx.getD n = lo.getD 0 then j else j + (lo.getD 0).toNat * ie.size) ((hi_.getD n).toNat - (lo.getD 0).toNat) (some ((mx.getD n).toNat - (lo.getD 0).toNat)) _ hd rfl (by simp only [Option.getD_some]; omega)
          by_cases hkl : mx.getD n = lo.getD 0
          · rw [if_pos hkl] at this ⊢
            rw [if_pos (by omega)]
            simpa using this
          · rw [if_neg hkl] at this ⊢
            rw [if_neg (by omega)]
            simpa [Addr.add_lit] using this
      · cases h
    · cases h
  · cases h
end Go.Proofs.Ytcmkkgdjhjpldaa.Eng

noncomputable section
namespace Go.Proofs.Ytcmkkgdjhjpldaa.Eng
open Go.RowKit
variable {P : Program} {T : Tab} {W0 : Fix} {R0 : Nat → Prop} {ns : Nat} {D : Nat → Prop} {s : St} {E : Env} {a : Act} {w : World} {m : Tr CB}
abbrev ZTab := TypeId → Option (List SV)
end Go.Proofs.Ytcmkkgdjhjpldaa.Eng

noncomputable section
namespace Go.Proofs.Ytcmkkgdjhjpldaa.Eng
open Go.RowKit
variable {P : Program} {T : Tab} {W0 : Fix} {R0 : Nat → Prop} {ns : Nat} {D : Nat → Prop} {s : St} {E : Env} {a : Act} {w : World} {m : Tr CB}
def zerosC (i : TI) (n : Nat) : List SV := (upN n 0).map fun j => ((i.zero[j % i.size]?).map cSV).getD .und
theorem zerosC_len (i : TI) (n : Nat) : (zerosC i n).length = n := by simp [zerosC, upN_len]
theorem zerosC_get (i : TI) (n k : Nat) : (zerosC i n)[k]? = if k < n then some (((i.zero[k % i.size]?).map cSV).getD .und) else none := by
  simp only [zerosC, List.getElem?_map, upN_get, Nat.zero_add]
  split <;> rfl
theorem zeros_reps (hT : TabOk P T) {e : TypeId} {i : TI} (hi : T e = some i) : ∃ inf z0, P.info? e = some inf ∧ inf.zero = some z0 ∧ inf.size = i.size ∧ inf.bytes = i.bytes ∧ z0.cells.size = i.size ∧ ∀ n, Reps E w (zerosC i n) (madeCells z0.cells n).toList := by
  have hk := hT e i hi
  obtain ⟨inf, z0, i1, i2, i3, i4, i5⟩ := hk.info
  have hzs : z0.cells.size = i.size := by rw [i5]; simp [hk.len]
  refine ⟨inf, z0, i1, i4, i2, i3, hzs, fun n => ?_⟩
  have hat : ∀ k, k < n → ∃ u, i.zero[k % i.size]? = some u ∧ u.oneCell' = true ∧ (madeCells z0.cells n).toList[k]? = some u := fun k hk' => by
    have hlt : k % i.size < i.zero.length := by rw [hk.len]; exact Nat.mod_lt _ hk.pos
    refine ⟨i.zero[k % i.size], List.getElem?_eq_getElem hlt, hk.one _ (List.getElem_mem _), ?_⟩
    simp only [madeCells, Array.getElem?_toList, Array.getElem?_map, Array.getElem?_range, hk', if_true, Option.map_some]
    congr 1
    rw [hzs, i5]
    simp [hlt]
  refine ⟨by simp [zerosC_len, size_madeCells], fun c hc => ?_, fun k c v hc hv => ?_⟩
  · obtain ⟨k, hk', rfl⟩ := List.getElem_of_mem hc
    have hkn : k < n := by rw [zerosC_len] at hk'; exact hk'
    have e1 := zerosC_get i n k
    obtain ⟨u, h1, h2, _⟩ := hat k hkn
    rw [List.getElem?_eq_getElem hk', if_pos hkn, h1] at e1
    rw [Option.some.inj e1]
    exact (cSV_rep (E := E) (w := w) h2).2
  · rw [zerosC_get] at hc
    split at hc
    · rename_i hkn
      obtain ⟨u, h1, h2, h3⟩ := hat k hkn
      rw [h3] at hv
      cases hv
      rw [h1] at hc
      cases hc
      exact (cSV_rep h2).1
    · cases hc
end Go.Proofs.Ytcmkkgdjhjpldaa.Eng

noncomputable section
namespace Go.Proofs.Ytcmkkgdjhjpldaa.Eng
open Go.RowKit
variable {P : Program} {T : Tab} {W0 : Fix} {R0 : Nat → Prop} {ns : Nat} {D : Nat → Prop} {s : St} {E : Env} {a : Act} {w : World} {m : Tr CB}
theorem splice_at (cur : Array Value) (us : List Value) (o : Nat) (h : o + us.length ≤ cur.size) : ∀ k, ((cur.toList.take o ++ us ++ cur.toList.drop (o + us.length)).toArray)[k]? = if o ≤ k ∧ k < o + us.length then us[k - o]? else cur[k]? := fun k => by
  rw [List.getElem?_toArray, row_get _ _ _ _ (by simp; omega)]
  simp
end Go.Proofs.Ytcmkkgdjhjpldaa.Eng

noncomputable section
namespace Go.Proofs.Ytcmkkgdjhjpldaa.Eng
open Go.RowKit
variable {P : Program} {T : Tab} {W0 : Fix} {R0 : Nat → Prop} {ns : Nat} {D : Nat → Prop} {s : St} {E : Env} {a : Act} {w : World} {m : Tr CB}
def eqI (a b : Int) : Bool := @Int.rec (fun _ => Int → Bool) (fun m b => @Int.rec (fun _ => Bool) (fun n => Nat.beq m n) (fun _ => false) b) (fun m b => @Int.rec (fun _ => Bool) (fun _ => false) (fun n => Nat.beq m n) b) a b
theorem eqI_iff {a b : Int} : eqI a b = true ↔ a = b := by
  cases a with
  | ofNat m =>
    cases b with
    | ofNat n => show Nat.beq m n = true ↔ _; rw [Nat.beq_eq]; exact ⟨fun h => h ▸ rfl, fun h => Int.ofNat.inj h⟩
    | negSucc n => show false = true ↔ _; simp
  | negSucc m =>
    cases b with
    | ofNat n => show false = true ↔ _; simp
    | negSucc n => show Nat.beq m n = true ↔ _; rw [Nat.beq_eq]; simp
def eqLI (a b : List Int) : Bool := @List.rec Int (fun _ => List Int → Bool) (fun b => @List.rec Int (fun _ => Bool) true (fun _ _ _ => false) b) (fun x _ ih b => @List.rec Int (fun _ => Bool) false (fun y l _ => @Bool.rec (fun _ => Bool) false (ih l) (eqI x y)) b) a b
theorem eqLI_iff : ∀ {a b : List Int}, eqLI a b = true ↔ a = b
  | [], [] => by show true = true ↔ _; simp
  | [], y :: b => by show false = true ↔ _; simp
  | x :: a, [] => by show false = true ↔ _; simp
  | x :: a, y :: b => by
    show @Bool.rec (fun _ => Bool) false (eqLI a b) (eqI x y) = true ↔ _
    rw [List.cons.injEq, ← eqI_iff, ← eqLI_iff (a := a)]
    cases eqI x y with
    | false => show false = true ↔ _; simp
    | true => show eqLI a b = true ↔ _; simp
def findK (a : List Int) (l : List (List Int)) : Nat → Option Nat := @List.rec (List Int) (fun _ => Nat → Option Nat) (fun _ => none) (fun b _ ih j => @Bool.rec (fun _ => Option Nat) (ih (Nat.succ j)) (some j) (eqLI a b)) l
theorem findK_nil {a : List Int} {j : Nat} : findK a [] j = none := rfl
theorem findK_cons {a b : List Int} {l : List (List Int)} {j : Nat} : findK a (b :: l) j = if a = b then some j else findK a l (j + 1) := by
  show @Bool.rec (fun _ => Option Nat) (findK a l (j + 1)) (some j) (eqLI a b) = _
  by_cases h : a = b
  · rw [if_pos h, eqLI_iff.2 h]
  · rw [if_neg h, show eqLI a b = false by cases e : eqLI a b with | false => rfl | true => exact absurd (eqLI_iff.1 e) h]
structure MapI where
  key : TypeId
  elem : TypeId
  zero : SV
  agg : Bool
  kk : List IntKind
structure MapOk (P : Program) (t : TypeId) (i : MapI) : Prop where
  und : P.underlying t = some (.map i.key i.elem)
  zero : ∃ z, (∀ w, (zeroValue i.elem).run P w = .ok z w) ∧ ∀ E w, Rep E w i.zero z
  one : i.agg = false → ∃ q, i.kk = [q]
  check : ∀ b w ns, ns.length = i.kk.length → (Instr.checkKey b 10000 i.key (keyVal i.agg i.kk ns)).run P w = .ok () w
  find : ∀ w a (es : List MapEntry) (ks : List (List Int)), a.length = i.kk.length → (∀ k ∈ ks, k.length = i.kk.length) → es.map (·.key) = ks.map (keyVal i.agg i.kk) →
    (Instr.findKey i.key (keyVal i.agg i.kk a) es).run P w = .ok ((findK a ks 0).bind fun j => (es[j]?).map fun e => (j, e.val)) w
abbrev MTab := TypeId → Option MapI
def MTabOk (P : Program) (M : MTab) : Prop := ∀ t i, M t = some i → MapOk P t i
theorem findK_off {a : List Int} : ∀ (l : List (List Int)) (j : Nat), findK a l (j + 1) = (findK a l j).map (· + 1)
  | [], _ => rfl
  | b :: l, j => by
    simp only [findK_nil, findK_cons]
    split
    · rfl
    · exact findK_off l (j + 1)
theorem findK_lt {a : List Int} : ∀ (l : List (List Int)) {j : Nat}, findK a l 0 = some j → ∃ b, l[j]? = some b ∧ a = b
  | [], _, h => by cases h
  | b :: l, j, h => by
    simp only [findK_nil, findK_cons] at h
    split at h
    · rename_i e; cases h; exact ⟨b, rfl, e⟩
    · rw [findK_off] at h
      rw [Option.map_eq_some_iff] at h
      obtain ⟨j', h1, rfl⟩ := h
      simpa using findK_lt l h1
theorem find_ints {t : TypeId} {kk : List IntKind} (w : World) (heq : ∀ a b : List Int, a.length = kk.length → b.length = kk.length → (Op.equal t (aggInts kk a) (aggInts kk b)).run P w = .ok (decide (a = b)) w) {a : List Int} (ha : a.length = kk.length) : ∀ (es : List MapEntry) (ks : List (List Int)) (j : Nat), (∀ k ∈ ks, k.length = kk.length) → es.map (·.key) = ks.map (keyVal true kk) →
    (Instr.findAsking t (keyVal true kk a) es j).run P w = .ok ((findK a ks 0).bind fun n => (es[n]?).map fun e => (j + n, e.val)) w
  | [], [], j, _, _ => rfl
  | [], _ :: _, _, _, h => by simp at h
  | _ :: _, [], _, _, h => by simp at h
  | e :: es, k :: ks, j, hk, h => by
    simp only [List.map_cons, List.cons.injEq] at h
    have ih := find_ints w heq ha es ks (j + 1) (fun k hk' => hk k (List.mem_cons_of_mem _ hk')) h.2
    have he := heq a k ha (hk k List.mem_cons_self)
    simp only [keyVal, if_true] at ih h ⊢
    simp only [Instr.findAsking, Sem.run_bind, h.1, he, Result.andThen_ok]
    by_cases hxy : a = k
    · subst hxy
      simp [findK_nil, findK_cons]
    · rw [if_neg (by simpa using hxy)]
      rw [ih]
      simp only [findK_nil, findK_cons, hxy, if_false]
      rw [findK_off]
      cases findK a ks 0 with
      | none => rfl
      | some i => simp only [Option.bind_some, Option.map_some, List.getElem?_cons_succ]; rw [show j + 1 + i = j + (i + 1) by omega]
theorem mapOk_ints {t : TypeId} {i : MapI} {d : TypeDesc} (h1 : P.underlying t = some (.map i.key i.elem)) (hd : P.underlying i.key = some d) (hds : ∀ x y, Instr.sameNow d (aggInts i.kk x) (aggInts i.kk y) = none) (h3 : i.agg = true)
    (heq : ∀ (w : World) (a b : List Int), a.length = i.kk.length → b.length = i.kk.length → (Op.equal i.key (aggInts i.kk a) (aggInts i.kk b)).run P w = .ok (decide (a = b)) w)
    (hc : ∀ b w ns, ns.length = i.kk.length → (Instr.checkKey b 10000 i.key (aggInts i.kk ns)).run P w = .ok () w) (hz : ∃ z, (∀ w, (zeroValue i.elem).run P w = .ok z w) ∧ ∀ E w, Rep E w i.zero z) : MapOk P t i where
  und := h1
  zero := hz
  one := fun h => by rw [h3] at h; cases h
  check := fun b w ns hl => by rw [h3]; exact hc b w ns hl
  find := fun w a es ks ha hk he => by
    rw [h3] at he ⊢
    have := find_ints w (heq w) ha es ks 0 hk he
    simp only [Nat.zero_add] at this
    cases es with
    | nil =>
      cases ks with
      | nil => simp [Instr.findKey, run_underlying hd, Instr.findNow, findK_nil, findK_cons]
      | cons => simp at he
    | cons e es =>
      cases ks with
      | nil => simp at he
      | cons k ks =>
        have hn : Instr.findNow d (keyVal true i.kk a) (e :: es) 0 = none := by
          simp only [List.map_cons, List.cons.injEq] at he
          simp only [Instr.findNow, he.1, keyVal, if_true]
          rw [hds a k]
        simp only [Instr.findKey, Sem.run_bind, run_underlying hd, Result.andThen_ok, hn]
        exact this
end Go.Proofs.Ytcmkkgdjhjpldaa.Eng

noncomputable section
namespace Go.Proofs.Ytcmkkgdjhjpldaa.Eng
open Go.RowKit
variable {P : Program} {T : Tab} {W0 : Fix} {R0 : Nat → Prop} {ns : Nat} {D : Nat → Prop} {s : St} {E : Env} {a : Act} {w : World} {m : Tr CB}
def keyOf (i : MapI) (v : SV) : Option (List Int) := match intsOf v.cells with
  | some (ks, l) => if ks = i.kk ∧ v.fit = true ∧ v.one = !i.agg then some l else none
  | none => none
theorem one_cells {v : SV} (h : v.one = true) : v.cells = [v] := by
  cases v with
  | d x => cases x <;> first | rfl | cases h
  | agg => cases h
  | _ => rfl
theorem keyOf_spec {i : MapI} (ho : i.agg = false → ∃ q, i.kk = [q]) {v : SV} {x : Value} {l : List Int} (h : keyOf i v = some l) (hx : Rep E w v x) : x = keyVal i.agg i.kk l ∧ l.length = i.kk.length := by
  unfold keyOf at h
  split at h
  · rename_i ks l' he
    split at h
    · rename_i hc
      cases h
      obtain ⟨rfl, hf, h1⟩ := hc
      have hR := hx.reps hf
      obtain ⟨e1, e2, e3⟩ := intsOf_rep he x.cells.toList hR.1 hR.2.2
      cases hag : i.agg with
      | true =>
        rw [hag] at h1
        obtain ⟨vs, rfl, a1, a2, a3⟩ := agg_of hx (by simpa using h1) hf
        refine ⟨?_, by rw [e3, e2]⟩
        simp only [Value.cells] at e1
        simp only [keyVal, if_true, aggInts]
        rw [← e1]
      | false =>
        rw [hag] at h1
        obtain ⟨q, hq⟩ := ho hag
        rw [hq] at e1 e2 ⊢
        have h1 : v.one = true := by simpa using h1
        rw [one_cells h1] at he e2 e3
        match l, e3 with
        | [n], _ =>
          simp only [keyVal, Bool.false_eq_true, if_false]
          rw [hq] at he
          have hv : v = .d (.val (.int q n)) := by
            unfold intsOf at he
            split at he
            · cases he
            · rename_i k n' l0 hl0
              simp only [List.cons.injEq] at hl0
              obtain ⟨rfl, rfl⟩ := hl0
              simp only [intsOf, Option.some.injEq, Prod.mk.injEq, List.cons.injEq, and_true] at he
              rw [he.1, he.2]
            · cases he
          rw [hv] at hx
          exact ⟨rep_int hx, rfl⟩
    · cases h
  · cases h
theorem tup2 {x y : SV} {u v : Value} (hx : Rep E w x u) (hy : Rep E w y v) : Rep E w (.tup [x, y]) (.tuple #[u, v]) := .tup _ _ rfl fun i c z hc hz => by
  match i with
  | 0 => simp at hc hz; subst hc; subst hz; exact hx
  | 1 => simp at hc hz; subst hc; subst hz; exact hy
  | n + 2 => simp at hc
end Go.Proofs.Ytcmkkgdjhjpldaa.Eng

noncomputable section
namespace Go.Proofs.Ytcmkkgdjhjpldaa.Eng
open Go.RowKit
variable {P : Program} {E : Env} {w : World}
inductive CK where
  | int (k : IntKind)
  | bool
structure BigT where
  per : List CK
  n : Nat
abbrev QTab := TypeId → Option BigT
end Go.Proofs.Ytcmkkgdjhjpldaa.Eng

noncomputable section
namespace Go.Proofs.Ytcmkkgdjhjpldaa.Eng
open Go.RowKit
variable {P : Program} {T : Tab} {M : MTab} {W0 : Fix} {R0 : Nat → Prop} {ns : Nat} {D : Nat → Prop} {s : St} {E : Env} {a : Act} {w : World} {m : Tr CB}
theorem call_eq {c : Call} {b : Builtin} {l : List Operand} {ts : List TypeId} (hc : c.callee = .builtin b) (ha : c.args.toList = l) (ht : c.argTypes.toList = ts) : c = { callee := .builtin b, args := l.toArray, argTypes := ts.toArray } := by
  cases c with
  | mk callee args argTypes =>
    simp only at hc ha ht
    subst hc
    congr 1
    · rw [← Array.toArray_toList (xs := args), ha]
    · rw [← Array.toArray_toList (xs := argTypes), ht]
end Go.Proofs.Ytcmkkgdjhjpldaa.Eng

namespace Go.Proofs.Ytcmkkgdjhjpldaa.Eng
open Go.RowKit
section
variable {P : Program} {F : Fence} {n : Nat} {b : Frame} {a : Act} {k : List Item} {cs : List Frame} {w : World} {Q : Exit → Act → World → Prop}
theorem stepR_scope' {c : Code} : step P (lone (b.atR a (.code (.scope c) :: k)) cs w) = .next (lone (b.atR a (.code c :: .inScope c :: k)) cs w) :=
  step_lone_go (by simp [stepG, stepG.exec, Frame.atR])
theorem stepR_inScope' {c : Code} : step P (lone (b.atR a (.inScope c :: k)) cs w) = .next (lone (b.atR a k) cs w) :=
  step_lone_go (by simp [stepG, stepG.exec, Frame.atR])
def ScIn (F : Fence) (n : Nat) (P : Program) (c x : Code) (Q : Exit → Act → World → Prop) (a : Act) (w : World) : Prop :=
  ∀ (b : Frame) (k : List Item) (cs : List Frame), b.roundOf = F.round → F.fn b.fn → F.room (cs.length + 1 + n) →
    ∃ e a' w', Q e a' w' ∧ ArrivesIn (Machine.fenced P F) P (lone (b.atR a (.code x :: .inScope c :: k)) cs w) b k cs e a' w'
def scopeX (c : Code) (J : Code → Act → World → Prop) (Q : Exit → Act → World → Prop) : Exit → Act → World → Prop
  | .goto l, a, w => match findLabel c l with
    | some rest => J rest a w
    | none => Q (.goto l) a w
  | e, a, w => Q e a w
theorem ScIn.of {c x : Code} (h : x.wpIn F n P (scopeX c (fun rest => ScIn F n P c rest Q) Q) a w) : ScIn F n P c x Q a w := by
  intro b k cs hro hb hr
  obtain ⟨e, a₁, w₁, hq, harr⟩ := h b (.inScope c :: k) cs hro hb hr
  cases e with
  | normal => exact ⟨.normal, a₁, w₁, hq, StepsIn.trans harr (.one (fenced_calm hb hr rfl) stepR_inScope')⟩
  | exit id =>
    have hx : exitTo id (.inScope c :: k) = exitTo id k := by simp [exitTo]
    exact ⟨_, a₁, w₁, hq, fun k' hk => harr.1 k' (by rw [hx]; exact hk), fun hr' hk => harr.2 hr' (by rw [hx]; exact hk)⟩
  | goto l =>
    simp only [scopeX] at hq
    cases hf : findLabel c l with
    | some rest =>
      rw [hf] at hq
      obtain ⟨e₂, a₂, w₂, hq₂, harr₂⟩ := hq b k cs hro hb hr
      have hg : gotoIn l (.inScope c :: k) = some (.code rest :: .inScope c :: k) := by simp [gotoIn, hf]
      exact ⟨e₂, a₂, w₂, hq₂, .of_steps (harr.1 _ hg) harr₂⟩
    | none =>
      rw [hf] at hq
      have hx : gotoIn l (.inScope c :: k) = gotoIn l k := by simp [gotoIn, hf]
      exact ⟨_, a₁, w₁, hq, fun k' hk => harr.1 k' (by rw [hx]; exact hk), fun hr' hk => harr.2 hr' (by rw [hx]; exact hk)⟩
  | ret => exact ⟨_, a₁, w₁, hq, harr⟩
  | panic ch => exact ⟨_, a₁, w₁, hq, harr⟩
  | outgrown => exact ⟨_, a₁, w₁, hq, harr⟩
theorem wpIn_scope' {c : Code} (h : ScIn F n P c c Q a w) : (Code.scope c).wpIn F n P Q a w := by
  intro b k cs hro hb hr
  obtain ⟨e, a₁, w₁, hq, harr⟩ := h b k cs hro hb hr
  exact ⟨e, a₁, w₁, hq, .of_steps (.one (fenced_calm hb hr rfl) stepR_scope') harr⟩
end
variable {P : Program} {T : Tab} {r : Option Nat} {ns n : Nat} {s : St} {Q : Post}
def AWs (P : Program) (r : Option Nat) (ns : Nat) (c x : Code) (n : Nat) (s : St) (Q : Post) : Prop :=
  ∀ (W0 : Fix) (R0 : Nat → Prop) (B : Nat) (E : Env) (a : Act) (w : World), InAct r W0 R0 B → Sim W0 R0 ns (· < n) s E a w →
    ScIn (fen (rOf W0 r)) 0 P c x (fun e a' w' => ∃ n' s' E' W1, Ext W0 W1 ∧ InAct r W1 R0 B ∧ Sim W1 R0 ns (· < n') s' E' a' w' ∧ Q e n' s') a w
def scopeP (c : Code) (J : Code → Nat → St → Prop) (Q : Post) : Post
  | .goto l, n, s => match findLabel c l with
    | some rest => J rest n s
    | none => Q (.goto l) n s
  | e, n, s => Q e n s
theorem ScIn.mono {F : Fence} {k : Nat} {c x : Code} {Q Q' : Exit → Act → World → Prop} {a : Act} {w : World} (h : ScIn F k P c x Q a w) (hq : ∀ e a w, Q e a w → Q' e a w) : ScIn F k P c x Q' a w :=
  fun b k cs hro hb hr => let ⟨e, a', w', q, r⟩ := h b k cs hro hb hr; ⟨e, a', w', hq _ _ _ q, r⟩
theorem AWs.of {c x : Code} (h : AWi P r ns x n s (scopeP c (fun rest n s => AWs P r ns c rest n s Q) Q)) : AWs P r ns c x n s Q := fun W0 R0 B E a w hi hs => by
  refine ScIn.of (wpIn_mono (h W0 R0 B E a w hi hs) ?_)
  rintro e a' w' ⟨n', s', E', W1, x1, i1, h1, h2⟩
  cases e with
  | goto l =>
    simp only [scopeP] at h2
    simp only [scopeX]
    cases hf : findLabel c l with
    | some rest =>
      rw [hf] at h2
      have h5 := h2 W1 R0 B E' a' w' i1 h1
      rw [x1.rOf] at h5
      exact h5.mono fun _ _ _ ⟨n2, s2, E2, W2, x2, i2, h3, h4⟩ => ⟨n2, s2, E2, W2, x1.trans x2, i2, h3, h4⟩
    | none =>
      rw [hf] at h2
      exact ⟨n', s', E', W1, x1, i1, h1, h2⟩
  | _ => exact ⟨n', s', E', W1, x1, i1, h1, h2⟩
theorem AWi.scope {c : Code} (h : AWs P r ns c c n s Q) : AWi P r ns (.scope c) n s Q := fun W0 R0 B E a w hi hs => wpIn_scope' (h W0 R0 B E a w hi hs)
section
variable {F : Fence} {k : Nat} {Q : Exit → Act → World → Prop} {a : Act} {w : World}
end
end Go.Proofs.Ytcmkkgdjhjpldaa.Eng

noncomputable section
namespace Go.Proofs.Ytcmkkgdjhjpldaa.Eng
open Go.RowKit
structure Rs where
  y : SV
  n : Nat
  m : Tr CB
inductive Ctx where
  | no
  | sc (c : Code)
  | lp (c : Code)
abbrev Runner := Option Nat → Nat → Ctx → Code → CS → Option (Exit × CS)
def sameL (f : SV → SV → Bool) : List SV → List SV → Bool
  | [], [] => true
  | x :: l, y :: k => f x y && sameL f l k
  | _, _ => false
structure Ent where
  f : FuncId
  args : List SV
  n : Nat
  m : Tr CB
  q : Rs
abbrev Sums := FuncId → Option (List SV → Nat → Tr CB → Option Rs)
structure Known where
  ents : List Ent
  closed : List (FuncId × Value)
  sums : Sums
def zeroN (n : Nat) : Bool := Nat.beq n 0
def stAfter (i : Nat) (a : Nat × Nat) : List Nat → List (Nat × Nat) → Bool
  | b :: bs, e :: es => (b.testBit i || zeroN ((a.2 &&& (e.1 ||| e.2)) ||| (a.1 &&& e.2))) && stAfter i a bs es
  | _, _ => true
def stAll (i : Nat) : List Nat → List (Nat × Nat) → Bool
  | _ :: bs, e :: es => stAfter i e bs es && stAll (i + 1) bs es
  | _, _ => true
def stOk (ops : Array Oper) : Bool := backB ops && stAll 0 (ancs ops.toList []) (ops.toList.map fun o => (maskL (guardSlot ops o ++ slotsOf o.op), maskL o.dst.toList))
structure Cfg where
  P : Program
  T : Tab
  Z : ZTab
  Q : QTab
  M : MTab
  K : Known
variable {C : Cfg} {R : Runner}
end Go.Proofs.Ytcmkkgdjhjpldaa.Eng

noncomputable section
namespace Go.Proofs.Ytcmkkgdjhjpldaa.Eng
open Go.RowKit
variable {P : Program} {T : Tab} {Z : ZTab} {Q : QTab} {M : MTab} {K : Known} {R : Runner} {r : Option Nat} {ns : Nat}
theorem stAfter_spec {i : Nat} {a : Nat × Nat} : ∀ {bs : List Nat} {es : List (Nat × Nat)}, stAfter i a bs es = true → es.length ≤ bs.length → ∀ (q : Nat) e, es[q]? = some e → ∃ b, bs[q]? = some b ∧ (b.testBit i = true ∨ (a.2 &&& (e.1 ||| e.2)) ||| (a.1 &&& e.2) = 0)
  | [], [], _, _, q, e, h => by simp at h
  | [], _ :: _, _, hl, _, _, _ => by simp at hl
  | _ :: _, [], _, _, q, e, h => by simp at h
  | b :: bs, e :: es, h, hl, q, f, hq => by
    simp only [stAfter, Bool.and_eq_true, Bool.or_eq_true] at h
    match q with
    | 0 =>
      simp only [List.getElem?_cons_zero, Option.some.injEq] at hq
      subst hq
      exact ⟨b, rfl, h.1.imp id fun h => by simpa [zeroN] using h⟩
    | q + 1 =>
      have := stAfter_spec h.2 (by simpa using hl) q f (by simpa using hq)
      simpa using this
theorem stAll_spec : ∀ {i0 : Nat} {bs : List Nat} {es : List (Nat × Nat)}, stAll i0 bs es = true → es.length ≤ bs.length → ∀ (p q : Nat) e f, p < q → es[p]? = some e → es[q]? = some f → ∃ b, bs[q]? = some b ∧ (b.testBit (i0 + p) = true ∨ (e.2 &&& (f.1 ||| f.2)) ||| (e.1 &&& f.2) = 0)
  | _, [], [], _, _, p, q, e, f, _, h, _ => by simp at h
  | _, [], _ :: _, _, hl, _, _, _, _, _, _, _ => by simp at hl
  | _, _ :: _, [], _, _, p, q, e, f, _, h, _ => by simp at h
  | i0, b :: bs, e :: es, h, hl, p, q, g, f, hpq, hp, hq => by
    simp only [stAll, Bool.and_eq_true] at h
    obtain ⟨q, rfl⟩ : ∃ q', q = q' + 1 := ⟨q - 1, by omega⟩
    simp only [List.getElem?_cons_succ] at hq ⊢
    match p with
    | 0 =>
      simp only [List.getElem?_cons_zero, Option.some.injEq] at hp
      subst hp
      exact stAfter_spec h.1 (by simpa using hl) q f hq
    | p + 1 =>
      have := stAll_spec h.2 (by simpa using hl) p q g f (by omega) (by simpa using hp) hq
      rw [show i0 + (p + 1) = i0 + 1 + p by omega]
      exact this
theorem ancs_len : ∀ (l : List Oper) (acc : List Nat), (ancs l acc).length = acc.length + l.length
  | [], acc => rfl
  | o :: l, acc => by simp only [ancs, ancs_len l]; simp; omega
end Go.Proofs.Ytcmkkgdjhjpldaa.Eng

noncomputable section
namespace Go.Proofs.Ytcmkkgdjhjpldaa.Eng
open Go.RowKit
variable {P : Program} {T : Tab} {Z : ZTab} {Q : QTab} {M : MTab} {K : Known} {R : Runner} {r : Option Nat} {ns : Nat}
inductive Of (S : Nat → Prop) : SV → Prop where
  | und : Of S .und
  | d (x : Dat) : Of S (.d x)
  | nilS : Of S .nilS
  | ptr (id i j : Nat) : S id → Of S (.ptr id i j)
  | mp (id : Nat) : S id → Of S (.mp id)
  | sl (id off k : Nat) (c : Option Nat) : S id → Of S (.sl id off k c)
  | yield (id : Nat) : S id → Of S (.yield id)
  | agg (cs : List SV) : (∀ c ∈ cs, Of S c) → Of S (.agg cs)
  | tup (cs : List SV) : (∀ c ∈ cs, Of S c) → Of S (.tup cs)
  | fn (f : FuncId) (us vs : List SV) : (∀ c ∈ us, Of S c) → (∀ c ∈ vs, Of S c) → Of S (.fn f us vs)
theorem Rep.of {S : Nat → Prop} {E E0 : Env} {w : World} {x : SV} {v : Value} (hr : E0.ro = E.ro) (hd : ∀ i, E.dom i → S i → E0.dom i) (hh : ∀ i, E.dom i → S i → E0.home i = E.home i) (h : Rep E w x v) : Of S x → Rep E0 w x v := by
  induction h with
  | und v => exact fun _ => .und v
  | d x v h => exact fun _ => .d x v (h.keep (fun b hb => by rw [hr]; exact hb) fun _ _ => rfl)
  | agg cs vs hs h1 _ ih => intro hf; cases hf with | agg _ k => exact .agg cs vs hs h1 fun i c v hc hv => ih i c v hc hv (k c (List.mem_of_getElem? hc))
  | nilS => exact fun _ => .nilS
  | lin id n _ hz hc => intro hf; cases hf
  | own id n z _ hz => intro hf; cases hf
  | rptr cs b off f hb h1 hc hr' => intro hf; cases hf
  | ptr id i j k => intro hf; cases hf with | ptr _ _ _ q => rw [← hh id k q]; exact .ptr id i j (hd _ k q)
  | fn f xs ys us vs h1 h2 _ _ ih1 ih2 =>
    intro hf
    cases hf with
    | fn _ _ _ q1 q2 => exact .fn f xs ys us vs h1 h2 (fun i c v hc hv => ih1 i c v hc hv (q1 c (List.mem_of_getElem? hc))) fun i c v hc hv => ih2 i c v hc hv (q2 c (List.mem_of_getElem? hc))
  | tup cs vs hs _ ih => intro hf; cases hf with | tup _ k => exact .tup cs vs hs fun i c v hc hv => ih i c v hc hv (k c (List.mem_of_getElem? hc))
  | yield id k => intro hf; cases hf with | yield _ q => rw [← hh id k q]; exact .yield id (hd _ k q)
  | sl id off n c o k h1 hk ho hn => intro hf; cases hf with | sl _ _ _ _ q => rw [← hh id h1 q] at hk ⊢; exact .sl id off n c o k (hd _ h1 q) hk ho hn
  | mp id k => intro hf; cases hf with | mp _ q => rw [← hh id k q]; exact .mp id (hd _ k q)
  | full rows A h => intro hf; cases hf
inductive OfB (S : Nat → Prop) : Blk → Prop where
  | box (ty : TypeId) (cs : List SV) (f : Bool) : (∀ c ∈ cs, Of S c) → OfB S (.box ty cs f)
  | part (z : Nat) (ty : TypeId) (cs : List SV) (f : Bool) : (∀ c ∈ cs, Of S c) → OfB S (.part z ty cs f)
  | map (es : List (Value × SV × Nat)) (clock : Nat) (f : Bool) : (∀ q ∈ es, Of S q.2.1) → OfB S (.map es clock f)
theorem Holds.of {S : Nat → Prop} {E E0 : Env} {w : World} {h : Home} {b : Blk} (hr : E0.ro = E.ro) (hd : ∀ i, E.dom i → S i → E0.dom i) (hh : ∀ i, E.dom i → S i → E0.home i = E.home i) (k : Holds E w h b) (hb : OfB S b) : Holds E0 w h b := by
  cases hb with
  | box ty cs f q =>
    cases k with
    | box _ _ _ cur h1 h2 h3 h4 => exact .box ty cs f cur h1 h2 h3 fun j c v hc hv => (h4 j c v hc hv).of hr hd hh (q c (List.mem_of_getElem? hc))
  | part z ty cs f q =>
    cases k with
    | part _ _ _ _ cur h0 h1 h2 h3 h4 => exact .part z ty cs f cur h0 h1 h2 h3 fun j c v hc hv => (h4 j c v hc hv).of hr hd hh (q c (List.mem_of_getElem? hc))
  | map es clock f q =>
    cases k with
    | map _ _ _ ents h1 h2 h3 =>
      refine .map es clock f ents h1 h2 fun i x e hx he => ?_
      obtain ⟨a, b, c⟩ := h3 i x e hx he
      exact ⟨a, b, c.of hr hd hh (q x (List.mem_of_getElem? hx))⟩
def New (n n' i : Nat) : Prop := n ≤ i ∧ i < n'
open Classical in
def behind (m m0 mq : Mem) (n n' : Nat) : Mem := fun i => if (m0 i).isSome = true ∨ New n n' i then mq i else m i
structure NCall (P : Program) (f : FuncId) (svs : List SV) (m0 : Mem) (n n' : Nat) (y : SV) (mq : Mem) : Prop where
  callable : Callable P f
  calls : ∀ (W0 : Fix) (R0 D : Nat → Prop) (m : Mem) (E : Env) (w : World) (vs : Array Value), (∀ i, D i → ¬ New n n' i) → (∀ i b, m0 i = some b → m i = some b) → MS W0 R0 D m E w → vs.size = svs.length → (∀ (i : Nat) x v, svs[i]? = some x → vs[i]? = some v → Rep E w x v) →
    Calls P f vs w fun e w' => ∃ v E', e = .returned v ∧ MS W0 R0 (fun i => D i ∨ New n n' i) (behind m m0 mq n n') E' w' ∧ E.le E' ∧ (∀ b, E.ro b → w'.heap[b]? = w.heap[b]?) ∧ Rep E' w' y v
end Go.Proofs.Ytcmkkgdjhjpldaa.Eng
