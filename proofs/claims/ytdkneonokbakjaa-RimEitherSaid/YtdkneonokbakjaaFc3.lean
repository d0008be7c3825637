/-
  A part of the texts that the claim builds on: see the last one.
-/
import Derived.Test.YtdkneonokbakjaaFc2
import Derived.Test.YtdkneonokbakjaaProg
import Derived.Maps.RangeRun
set_option linter.unusedSimpArgs false
set_option linter.unusedVariables false
namespace Go.Proofs.Ytdkneonokbakjaa.Eng
open Go.RowKit
theorem info1 : (Try.prog.info? 1).map (fun i => (i.zero, i.size, i.bytes)) = some (some (.nilFunc), 1, 8) := by kernel_rfl
theorem ti1 : TiOk Try.prog 1 { size := 1, bytes := 8, zero := [.nilFunc], kind := .cell } := tiOk_mk info1 rfl rfl rfl (by decide) (⟨_, Try.underlying1, fun _ h => TypeDesc.noConfusion h, fun _ _ h => TypeDesc.noConfusion h⟩) (by decide) (fun h => absurd rfl h)
theorem info2 : (Try.prog.info? 2).map (fun i => (i.zero, i.size, i.bytes)) = some (some (.int .i64 0), 1, 8) := by kernel_rfl
theorem ti2 : TiOk Try.prog 2 { size := 1, bytes := 8, zero := [.int .i64 0], kind := .int .i64 } := tiOk_mk info2 rfl rfl rfl (by decide) (Try.underlying2) (by decide) (fun h => absurd rfl h)
theorem info3 : (Try.prog.info? 3).map (fun i => (i.zero, i.size, i.bytes)) = some (some (.int .i64 0), 1, 8) := by kernel_rfl
theorem ti3 : TiOk Try.prog 3 { size := 1, bytes := 8, zero := [.int .i64 0], kind := .int .i64 } := tiOk_mk info3 rfl rfl rfl (by decide) (Try.underlying3) (by decide) (fun h => absurd rfl h)
theorem info4 : (Try.prog.info? 4).map (fun i => (i.zero, i.size, i.bytes)) = some (some (.bool false), 1, 1) := by kernel_rfl
theorem ti4 : TiOk Try.prog 4 { size := 1, bytes := 1, zero := [.bool false], kind := .bool } := tiOk_mk info4 rfl rfl rfl (by decide) (Try.underlying4) (by decide) (fun h => absurd rfl h)
theorem info5 : (Try.prog.info? 5).map (fun i => (i.zero, i.size, i.bytes)) = some (some (.int .u8 0), 1, 1) := by kernel_rfl
theorem ti5 : TiOk Try.prog 5 { size := 1, bytes := 1, zero := [.int .u8 0], kind := .int .u8 } := tiOk_mk info5 rfl rfl rfl (by decide) (Try.underlying5) (by decide) (fun h => absurd rfl h)
theorem info6 : (Try.prog.info? 6).map (fun i => (i.zero, i.size, i.bytes)) = some (some (.int .u8 0), 1, 1) := by kernel_rfl
theorem ti6 : TiOk Try.prog 6 { size := 1, bytes := 1, zero := [.int .u8 0], kind := .int .u8 } := tiOk_mk info6 rfl rfl rfl (by decide) (Try.underlying6) (by decide) (fun h => absurd rfl h)
theorem info7 : (Try.prog.info? 7).map (fun i => (i.zero, i.size, i.bytes)) = some (some (.agg #[.int .i64 0, .int .i64 0, .bool false, .int .u8 0]), 4, 24) := by kernel_rfl
theorem ti7 : TiOk Try.prog 7 { size := 4, bytes := 24, zero := [.int .i64 0, .int .i64 0, .bool false, .int .u8 0], kind := .struct [(0, 2), (1, 3), (2, 4), (3, 6)] } := tiOk_mk info7 rfl rfl rfl (by decide) (⟨_, Try.underlying7, rfl⟩) (by decide) (fun h => absurd rfl h)
theorem info8 : (Try.prog.info? 8).map (fun i => (i.zero, i.size, i.bytes)) = some (some (.agg #[.int .i64 0, .int .i64 0, .bool false, .int .u8 0]), 4, 24) := by kernel_rfl
theorem ti8 : TiOk Try.prog 8 { size := 4, bytes := 24, zero := [.int .i64 0, .int .i64 0, .bool false, .int .u8 0], kind := .struct [(0, 2), (1, 3), (2, 4), (3, 6)] } := tiOk_mk info8 rfl rfl rfl (by decide) (⟨_, Try.underlying8, rfl⟩) (by decide) (fun h => absurd rfl h)
theorem info12 : (Try.prog.info? 12).map (fun i => (i.zero, i.size, i.bytes)) = some (some (.int .u64 0), 1, 8) := by kernel_rfl
theorem ti12 : TiOk Try.prog 12 { size := 1, bytes := 8, zero := [.int .u64 0], kind := .int .u64 } := tiOk_mk info12 rfl rfl rfl (by decide) (Try.underlying12) (by decide) (fun h => absurd rfl h)
theorem info15 : (Try.prog.info? 15).map (fun i => (i.zero, i.size, i.bytes)) = some (some (.pointer none), 1, 8) := by kernel_rfl
theorem ti15 : TiOk Try.prog 15 { size := 1, bytes := 8, zero := [.pointer none], kind := .cell } := tiOk_mk info15 rfl rfl rfl (by decide) (⟨_, Try.underlying15, fun _ h => TypeDesc.noConfusion h, fun _ _ h => TypeDesc.noConfusion h⟩) (by decide) (fun h => absurd rfl h)
theorem info16 : (Try.prog.info? 16).map (fun i => (i.zero, i.size, i.bytes)) = some (some (.pointer none), 1, 8) := by kernel_rfl
theorem ti16 : TiOk Try.prog 16 { size := 1, bytes := 8, zero := [.pointer none], kind := .cell } := tiOk_mk info16 rfl rfl rfl (by decide) (⟨_, Try.underlying16, fun _ h => TypeDesc.noConfusion h, fun _ _ h => TypeDesc.noConfusion h⟩) (by decide) (fun h => absurd rfl h)
theorem info17 : (Try.prog.info? 17).map (fun i => (i.zero, i.size, i.bytes)) = some (some (.pointer none), 1, 8) := by kernel_rfl
theorem ti17 : TiOk Try.prog 17 { size := 1, bytes := 8, zero := [.pointer none], kind := .cell } := tiOk_mk info17 rfl rfl rfl (by decide) (⟨_, Try.underlying17, fun _ h => TypeDesc.noConfusion h, fun _ _ h => TypeDesc.noConfusion h⟩) (by decide) (fun h => absurd rfl h)
theorem info18 : (Try.prog.info? 18).map (fun i => (i.zero, i.size, i.bytes)) = some (some (.agg #[.pointer none]), 1, 8) := by kernel_rfl
theorem ti18 : TiOk Try.prog 18 { size := 1, bytes := 8, zero := [.pointer none], kind := .struct [(0, 17)] } := tiOk_mk info18 rfl rfl rfl (by decide) (⟨_, Try.underlying18, rfl⟩) (by decide) (fun h => absurd rfl h)
theorem info19 : (Try.prog.info? 19).map (fun i => (i.zero, i.size, i.bytes)) = some (some (.agg #[.pointer none]), 1, 8) := by kernel_rfl
theorem ti19 : TiOk Try.prog 19 { size := 1, bytes := 8, zero := [.pointer none], kind := .struct [(0, 17)] } := tiOk_mk info19 rfl rfl rfl (by decide) (⟨_, Try.underlying19, rfl⟩) (by decide) (fun h => absurd rfl h)
theorem info21 : (Try.prog.info? 21).map (fun i => (i.zero, i.size, i.bytes)) = some (some (.int .i32 0), 1, 4) := by kernel_rfl
theorem ti21 : TiOk Try.prog 21 { size := 1, bytes := 4, zero := [.int .i32 0], kind := .int .i32 } := tiOk_mk info21 rfl rfl rfl (by decide) (Try.underlying21) (by decide) (fun h => absurd rfl h)
theorem info22 : (Try.prog.info? 22).map (fun i => (i.zero, i.size, i.bytes)) = some (some (.agg #[.int .i64 0, .int .i64 0]), 2, 16) := by kernel_rfl
theorem eqs22 (w : World) (x y : Operand) (m n : List Int) (hm : m.length = 2) (hn : n.length = 2) :
    (do eqGuard .eql 22 x y (aggInts [.i64, .i64] m) (aggInts [.i64, .i64] n); binOp .eql 22 (aggInts [.i64, .i64] m) (aggInts [.i64, .i64] n) : Sem Value).run Try.prog w = .ok (.bool (decide (m = n))) w ∧
    (do eqGuard .neq 22 x y (aggInts [.i64, .i64] m) (aggInts [.i64, .i64] n); binOp .neq 22 (aggInts [.i64, .i64] m) (aggInts [.i64, .i64] n) : Sem Value).run Try.prog w = .ok (.bool (decide (m ≠ n))) w := by
  exact eqs_by_2 w x y hm hn (by kernel_rfl) (by kernel_rfl) Try.underlying22 Try.underlying2 Try.underlying2 (by decide)
theorem ti22 : TiOk Try.prog 22 { size := 2, bytes := 16, zero := [.int .i64 0, .int .i64 0], kind := .struct [(0, 2), (1, 2)], eqk := [.i64, .i64] } := tiOk_mk info22 rfl rfl rfl (by decide) (⟨_, Try.underlying22, rfl⟩) (by decide) (fun _ => eqs22)
theorem info23 : (Try.prog.info? 23).map (fun i => (i.zero, i.size, i.bytes)) = some (some (.agg #[.int .i64 0, .int .i64 0]), 2, 16) := by kernel_rfl
theorem eqs23 (w : World) (x y : Operand) (m n : List Int) (hm : m.length = 2) (hn : n.length = 2) :
    (do eqGuard .eql 23 x y (aggInts [.i64, .i64] m) (aggInts [.i64, .i64] n); binOp .eql 23 (aggInts [.i64, .i64] m) (aggInts [.i64, .i64] n) : Sem Value).run Try.prog w = .ok (.bool (decide (m = n))) w ∧
    (do eqGuard .neq 23 x y (aggInts [.i64, .i64] m) (aggInts [.i64, .i64] n); binOp .neq 23 (aggInts [.i64, .i64] m) (aggInts [.i64, .i64] n) : Sem Value).run Try.prog w = .ok (.bool (decide (m ≠ n))) w := by
  exact eqs_by_2 w x y hm hn (by kernel_rfl) (by kernel_rfl) Try.underlying23 Try.underlying2 Try.underlying2 (by decide)
theorem ti23 : TiOk Try.prog 23 { size := 2, bytes := 16, zero := [.int .i64 0, .int .i64 0], kind := .struct [(0, 2), (1, 2)], eqk := [.i64, .i64] } := tiOk_mk info23 rfl rfl rfl (by decide) (⟨_, Try.underlying23, rfl⟩) (by decide) (fun _ => eqs23)
theorem info24 : (Try.prog.info? 24).map (fun i => (i.zero, i.size, i.bytes)) = some (some (.agg #[.int .i64 0, .int .i64 0, .int .i64 0, .int .i64 0, .int .i64 0]), 5, 40) := by kernel_rfl
theorem ti24 : TiOk Try.prog 24 { size := 5, bytes := 40, zero := [.int .i64 0, .int .i64 0, .int .i64 0, .int .i64 0, .int .i64 0], kind := .struct [(0, 2), (1, 2), (2, 2), (3, 23)] } := tiOk_mk info24 rfl rfl rfl (by decide) (⟨_, Try.underlying24, rfl⟩) (by decide) (fun h => absurd rfl h)
theorem info25 : (Try.prog.info? 25).map (fun i => (i.zero, i.size, i.bytes)) = some (some (.agg #[.int .i64 0, .int .i64 0, .int .i64 0, .int .i64 0, .int .i64 0]), 5, 40) := by kernel_rfl
theorem ti25 : TiOk Try.prog 25 { size := 5, bytes := 40, zero := [.int .i64 0, .int .i64 0, .int .i64 0, .int .i64 0, .int .i64 0], kind := .struct [(0, 2), (1, 2), (2, 2), (3, 23)] } := tiOk_mk info25 rfl rfl rfl (by decide) (⟨_, Try.underlying25, rfl⟩) (by decide) (fun h => absurd rfl h)
theorem info26 : (Try.prog.info? 26).map (fun i => (i.zero, i.size, i.bytes)) = some (some (.slice none 0 0), 1, 24) := by kernel_rfl
theorem ti26 : TiOk Try.prog 26 { size := 1, bytes := 24, zero := [.slice none 0 0], kind := .slice 2 } := tiOk_mk info26 rfl rfl rfl (by decide) (Try.underlying26) (by decide) (fun h => absurd rfl h)
theorem info27 : (Try.prog.info? 27).map (fun i => (i.zero, i.size, i.bytes)) = some (some (.nilFunc), 1, 8) := by kernel_rfl
theorem ti27 : TiOk Try.prog 27 { size := 1, bytes := 8, zero := [.nilFunc], kind := .cell } := tiOk_mk info27 rfl rfl rfl (by decide) (⟨_, Try.underlying27, fun _ h => TypeDesc.noConfusion h, fun _ _ h => TypeDesc.noConfusion h⟩) (by decide) (fun h => absurd rfl h)
theorem info28 : (Try.prog.info? 28).map (fun i => (i.zero, i.size, i.bytes)) = some (some (.nilFunc), 1, 8) := by kernel_rfl
theorem ti28 : TiOk Try.prog 28 { size := 1, bytes := 8, zero := [.nilFunc], kind := .cell } := tiOk_mk info28 rfl rfl rfl (by decide) (⟨_, Try.underlying28, fun _ h => TypeDesc.noConfusion h, fun _ _ h => TypeDesc.noConfusion h⟩) (by decide) (fun h => absurd rfl h)
theorem info29 : (Try.prog.info? 29).map (fun i => (i.zero, i.size, i.bytes)) = some (some (.int .i64 0), 1, 8) := by kernel_rfl
theorem ti29 : TiOk Try.prog 29 { size := 1, bytes := 8, zero := [.int .i64 0], kind := .int .i64 } := tiOk_mk info29 rfl rfl rfl (by decide) (Try.underlying29) (by decide) (fun h => absurd rfl h)
theorem info31 : (Try.prog.info? 31).map (fun i => (i.zero, i.size, i.bytes)) = some (some (.nilFunc), 1, 8) := by kernel_rfl
theorem ti31 : TiOk Try.prog 31 { size := 1, bytes := 8, zero := [.nilFunc], kind := .cell } := tiOk_mk info31 rfl rfl rfl (by decide) (⟨_, Try.underlying31, fun _ h => TypeDesc.noConfusion h, fun _ _ h => TypeDesc.noConfusion h⟩) (by decide) (fun h => absurd rfl h)
theorem info33 : (Try.prog.info? 33).map (fun i => (i.zero, i.size, i.bytes)) = some (some (.nilFunc), 1, 8) := by kernel_rfl
theorem ti33 : TiOk Try.prog 33 { size := 1, bytes := 8, zero := [.nilFunc], kind := .cell } := tiOk_mk info33 rfl rfl rfl (by decide) (⟨_, Try.underlying33, fun _ h => TypeDesc.noConfusion h, fun _ _ h => TypeDesc.noConfusion h⟩) (by decide) (fun h => absurd rfl h)
theorem info34 : (Try.prog.info? 34).map (fun i => (i.zero, i.size, i.bytes)) = some (some (.nilFunc), 1, 8) := by kernel_rfl
theorem ti34 : TiOk Try.prog 34 { size := 1, bytes := 8, zero := [.nilFunc], kind := .cell } := tiOk_mk info34 rfl rfl rfl (by decide) (⟨_, Try.underlying34, fun _ h => TypeDesc.noConfusion h, fun _ _ h => TypeDesc.noConfusion h⟩) (by decide) (fun h => absurd rfl h)
theorem info35 : (Try.prog.info? 35).map (fun i => (i.zero, i.size, i.bytes)) = some (some (.nilFunc), 1, 8) := by kernel_rfl
theorem ti35 : TiOk Try.prog 35 { size := 1, bytes := 8, zero := [.nilFunc], kind := .cell } := tiOk_mk info35 rfl rfl rfl (by decide) (⟨_, Try.underlying35, fun _ h => TypeDesc.noConfusion h, fun _ _ h => TypeDesc.noConfusion h⟩) (by decide) (fun h => absurd rfl h)
theorem info36 : (Try.prog.info? 36).map (fun i => (i.zero, i.size, i.bytes)) = some (some (.slice none 0 0), 1, 24) := by kernel_rfl
theorem ti36 : TiOk Try.prog 36 { size := 1, bytes := 24, zero := [.slice none 0 0], kind := .slice 59 } := tiOk_mk info36 rfl rfl rfl (by decide) (Try.underlying36) (by decide) (fun h => absurd rfl h)
theorem info37 : (Try.prog.info? 37).map (fun i => (i.zero, i.size, i.bytes)) = some (some (.nilFunc), 1, 8) := by kernel_rfl
theorem ti37 : TiOk Try.prog 37 { size := 1, bytes := 8, zero := [.nilFunc], kind := .cell } := tiOk_mk info37 rfl rfl rfl (by decide) (⟨_, Try.underlying37, fun _ h => TypeDesc.noConfusion h, fun _ _ h => TypeDesc.noConfusion h⟩) (by decide) (fun h => absurd rfl h)
theorem info38 : (Try.prog.info? 38).map (fun i => (i.zero, i.size, i.bytes)) = some (some (.nilFunc), 1, 8) := by kernel_rfl
theorem ti38 : TiOk Try.prog 38 { size := 1, bytes := 8, zero := [.nilFunc], kind := .cell } := tiOk_mk info38 rfl rfl rfl (by decide) (⟨_, Try.underlying38, fun _ h => TypeDesc.noConfusion h, fun _ _ h => TypeDesc.noConfusion h⟩) (by decide) (fun h => absurd rfl h)
theorem info39 : (Try.prog.info? 39).map (fun i => (i.zero, i.size, i.bytes)) = some (some (.nilFunc), 1, 8) := by kernel_rfl
theorem ti39 : TiOk Try.prog 39 { size := 1, bytes := 8, zero := [.nilFunc], kind := .cell } := tiOk_mk info39 rfl rfl rfl (by decide) (⟨_, Try.underlying39, fun _ h => TypeDesc.noConfusion h, fun _ _ h => TypeDesc.noConfusion h⟩) (by decide) (fun h => absurd rfl h)
theorem info41 : (Try.prog.info? 41).map (fun i => (i.zero, i.size, i.bytes)) = some (some (.nilFunc), 1, 8) := by kernel_rfl
theorem ti41 : TiOk Try.prog 41 { size := 1, bytes := 8, zero := [.nilFunc], kind := .cell } := tiOk_mk info41 rfl rfl rfl (by decide) (⟨_, Try.underlying41, fun _ h => TypeDesc.noConfusion h, fun _ _ h => TypeDesc.noConfusion h⟩) (by decide) (fun h => absurd rfl h)
theorem info43 : (Try.prog.info? 43).map (fun i => (i.zero, i.size, i.bytes)) = some (some (.nilFunc), 1, 8) := by kernel_rfl
theorem ti43 : TiOk Try.prog 43 { size := 1, bytes := 8, zero := [.nilFunc], kind := .cell } := tiOk_mk info43 rfl rfl rfl (by decide) (⟨_, Try.underlying43, fun _ h => TypeDesc.noConfusion h, fun _ _ h => TypeDesc.noConfusion h⟩) (by decide) (fun h => absurd rfl h)
theorem info44 : (Try.prog.info? 44).map (fun i => (i.zero, i.size, i.bytes)) = some (some (.nilFunc), 1, 8) := by kernel_rfl
theorem ti44 : TiOk Try.prog 44 { size := 1, bytes := 8, zero := [.nilFunc], kind := .cell } := tiOk_mk info44 rfl rfl rfl (by decide) (⟨_, Try.underlying44, fun _ h => TypeDesc.noConfusion h, fun _ _ h => TypeDesc.noConfusion h⟩) (by decide) (fun h => absurd rfl h)
theorem info45 : (Try.prog.info? 45).map (fun i => (i.zero, i.size, i.bytes)) = some (some (.nilFunc), 1, 8) := by kernel_rfl
theorem ti45 : TiOk Try.prog 45 { size := 1, bytes := 8, zero := [.nilFunc], kind := .cell } := tiOk_mk info45 rfl rfl rfl (by decide) (⟨_, Try.underlying45, fun _ h => TypeDesc.noConfusion h, fun _ _ h => TypeDesc.noConfusion h⟩) (by decide) (fun h => absurd rfl h)
theorem info46 : (Try.prog.info? 46).map (fun i => (i.zero, i.size, i.bytes)) = some (some (.nilFunc), 1, 8) := by kernel_rfl
theorem ti46 : TiOk Try.prog 46 { size := 1, bytes := 8, zero := [.nilFunc], kind := .cell } := tiOk_mk info46 rfl rfl rfl (by decide) (⟨_, Try.underlying46, fun _ h => TypeDesc.noConfusion h, fun _ _ h => TypeDesc.noConfusion h⟩) (by decide) (fun h => absurd rfl h)
theorem info47 : (Try.prog.info? 47).map (fun i => (i.zero, i.size, i.bytes)) = some (some (.nilFunc), 1, 8) := by kernel_rfl
theorem ti47 : TiOk Try.prog 47 { size := 1, bytes := 8, zero := [.nilFunc], kind := .cell } := tiOk_mk info47 rfl rfl rfl (by decide) (⟨_, Try.underlying47, fun _ h => TypeDesc.noConfusion h, fun _ _ h => TypeDesc.noConfusion h⟩) (by decide) (fun h => absurd rfl h)
theorem info48 : (Try.prog.info? 48).map (fun i => (i.zero, i.size, i.bytes)) = some (some (.nilFunc), 1, 8) := by kernel_rfl
theorem ti48 : TiOk Try.prog 48 { size := 1, bytes := 8, zero := [.nilFunc], kind := .cell } := tiOk_mk info48 rfl rfl rfl (by decide) (⟨_, Try.underlying48, fun _ h => TypeDesc.noConfusion h, fun _ _ h => TypeDesc.noConfusion h⟩) (by decide) (fun h => absurd rfl h)
theorem info49 : (Try.prog.info? 49).map (fun i => (i.zero, i.size, i.bytes)) = some (some (.slice none 0 0), 1, 24) := by kernel_rfl
theorem ti49 : TiOk Try.prog 49 { size := 1, bytes := 24, zero := [.slice none 0 0], kind := .slice 3 } := tiOk_mk info49 rfl rfl rfl (by decide) (Try.underlying49) (by decide) (fun h => absurd rfl h)
theorem info51 : (Try.prog.info? 51).map (fun i => (i.zero, i.size, i.bytes)) = some (some (.nilFunc), 1, 8) := by kernel_rfl
theorem ti51 : TiOk Try.prog 51 { size := 1, bytes := 8, zero := [.nilFunc], kind := .cell } := tiOk_mk info51 rfl rfl rfl (by decide) (⟨_, Try.underlying51, fun _ h => TypeDesc.noConfusion h, fun _ _ h => TypeDesc.noConfusion h⟩) (by decide) (fun h => absurd rfl h)
theorem info52 : (Try.prog.info? 52).map (fun i => (i.zero, i.size, i.bytes)) = some (some (.nilFunc), 1, 8) := by kernel_rfl
theorem ti52 : TiOk Try.prog 52 { size := 1, bytes := 8, zero := [.nilFunc], kind := .cell } := tiOk_mk info52 rfl rfl rfl (by decide) (⟨_, Try.underlying52, fun _ h => TypeDesc.noConfusion h, fun _ _ h => TypeDesc.noConfusion h⟩) (by decide) (fun h => absurd rfl h)
theorem info53 : (Try.prog.info? 53).map (fun i => (i.zero, i.size, i.bytes)) = some (some (.nilFunc), 1, 8) := by kernel_rfl
theorem ti53 : TiOk Try.prog 53 { size := 1, bytes := 8, zero := [.nilFunc], kind := .cell } := tiOk_mk info53 rfl rfl rfl (by decide) (⟨_, Try.underlying53, fun _ h => TypeDesc.noConfusion h, fun _ _ h => TypeDesc.noConfusion h⟩) (by decide) (fun h => absurd rfl h)
theorem info54 : (Try.prog.info? 54).map (fun i => (i.zero, i.size, i.bytes)) = some (some (.int .u32 0), 1, 4) := by kernel_rfl
theorem ti54 : TiOk Try.prog 54 { size := 1, bytes := 4, zero := [.int .u32 0], kind := .int .u32 } := tiOk_mk info54 rfl rfl rfl (by decide) (Try.underlying54) (by decide) (fun h => absurd rfl h)
theorem info55 : (Try.prog.info? 55).map (fun i => (i.zero, i.size, i.bytes)) = some (some (.slice none 0 0), 1, 24) := by kernel_rfl
theorem ti55 : TiOk Try.prog 55 { size := 1, bytes := 24, zero := [.slice none 0 0], kind := .slice 36 } := tiOk_mk info55 rfl rfl rfl (by decide) (Try.underlying55) (by decide) (fun h => absurd rfl h)
theorem info56 : (Try.prog.info? 56).map (fun i => (i.zero, i.size, i.bytes)) = some (some (.nilFunc), 1, 8) := by kernel_rfl
theorem ti56 : TiOk Try.prog 56 { size := 1, bytes := 8, zero := [.nilFunc], kind := .cell } := tiOk_mk info56 rfl rfl rfl (by decide) (⟨_, Try.underlying56, fun _ h => TypeDesc.noConfusion h, fun _ _ h => TypeDesc.noConfusion h⟩) (by decide) (fun h => absurd rfl h)
theorem info57 : (Try.prog.info? 57).map (fun i => (i.zero, i.size, i.bytes)) = some (some (.nilFunc), 1, 8) := by kernel_rfl
theorem ti57 : TiOk Try.prog 57 { size := 1, bytes := 8, zero := [.nilFunc], kind := .cell } := tiOk_mk info57 rfl rfl rfl (by decide) (⟨_, Try.underlying57, fun _ h => TypeDesc.noConfusion h, fun _ _ h => TypeDesc.noConfusion h⟩) (by decide) (fun h => absurd rfl h)
theorem info58 : (Try.prog.info? 58).map (fun i => (i.zero, i.size, i.bytes)) = some (some (.agg #[.int .i64 0, .int .i64 0]), 2, 16) := by kernel_rfl
theorem eqs58 (w : World) (x y : Operand) (m n : List Int) (hm : m.length = 2) (hn : n.length = 2) :
    (do eqGuard .eql 58 x y (aggInts [.i64, .i64] m) (aggInts [.i64, .i64] n); binOp .eql 58 (aggInts [.i64, .i64] m) (aggInts [.i64, .i64] n) : Sem Value).run Try.prog w = .ok (.bool (decide (m = n))) w ∧
    (do eqGuard .neq 58 x y (aggInts [.i64, .i64] m) (aggInts [.i64, .i64] n); binOp .neq 58 (aggInts [.i64, .i64] m) (aggInts [.i64, .i64] n) : Sem Value).run Try.prog w = .ok (.bool (decide (m ≠ n))) w := by
  exact eqs_by_2 w x y hm hn (by kernel_rfl) (by kernel_rfl) Try.underlying58 Try.underlying2 Try.underlying3 (by decide)
theorem ti58 : TiOk Try.prog 58 { size := 2, bytes := 16, zero := [.int .i64 0, .int .i64 0], kind := .struct [(0, 2), (1, 3)], eqk := [.i64, .i64] } := tiOk_mk info58 rfl rfl rfl (by decide) (⟨_, Try.underlying58, rfl⟩) (by decide) (fun _ => eqs58)
theorem info59 : (Try.prog.info? 59).map (fun i => (i.zero, i.size, i.bytes)) = some (some (.agg #[.int .i64 0, .int .i64 0]), 2, 16) := by kernel_rfl
theorem eqs59 (w : World) (x y : Operand) (m n : List Int) (hm : m.length = 2) (hn : n.length = 2) :
    (do eqGuard .eql 59 x y (aggInts [.i64, .i64] m) (aggInts [.i64, .i64] n); binOp .eql 59 (aggInts [.i64, .i64] m) (aggInts [.i64, .i64] n) : Sem Value).run Try.prog w = .ok (.bool (decide (m = n))) w ∧
    (do eqGuard .neq 59 x y (aggInts [.i64, .i64] m) (aggInts [.i64, .i64] n); binOp .neq 59 (aggInts [.i64, .i64] m) (aggInts [.i64, .i64] n) : Sem Value).run Try.prog w = .ok (.bool (decide (m ≠ n))) w := by
  exact eqs_by_2 w x y hm hn (by kernel_rfl) (by kernel_rfl) Try.underlying59 Try.underlying2 Try.underlying3 (by decide)
theorem ti59 : TiOk Try.prog 59 { size := 2, bytes := 16, zero := [.int .i64 0, .int .i64 0], kind := .struct [(0, 2), (1, 3)], eqk := [.i64, .i64] } := tiOk_mk info59 rfl rfl rfl (by decide) (⟨_, Try.underlying59, rfl⟩) (by decide) (fun _ => eqs59)
theorem info60 : (Try.prog.info? 60).map (fun i => (i.zero, i.size, i.bytes)) = some (some (.nilFunc), 1, 8) := by kernel_rfl
theorem ti60 : TiOk Try.prog 60 { size := 1, bytes := 8, zero := [.nilFunc], kind := .cell } := tiOk_mk info60 rfl rfl rfl (by decide) (⟨_, Try.underlying60, fun _ h => TypeDesc.noConfusion h, fun _ _ h => TypeDesc.noConfusion h⟩) (by decide) (fun h => absurd rfl h)
theorem info61 : (Try.prog.info? 61).map (fun i => (i.zero, i.size, i.bytes)) = some (some (.nilFunc), 1, 8) := by kernel_rfl
theorem ti61 : TiOk Try.prog 61 { size := 1, bytes := 8, zero := [.nilFunc], kind := .cell } := tiOk_mk info61 rfl rfl rfl (by decide) (⟨_, Try.underlying61, fun _ h => TypeDesc.noConfusion h, fun _ _ h => TypeDesc.noConfusion h⟩) (by decide) (fun h => absurd rfl h)
theorem info62 : (Try.prog.info? 62).map (fun i => (i.zero, i.size, i.bytes)) = some (some (.agg #[.int .u32 0, .int .u32 0]), 2, 8) := by kernel_rfl
theorem eqs62 (w : World) (x y : Operand) (m n : List Int) (hm : m.length = 2) (hn : n.length = 2) :
    (do eqGuard .eql 62 x y (aggInts [.u32, .u32] m) (aggInts [.u32, .u32] n); binOp .eql 62 (aggInts [.u32, .u32] m) (aggInts [.u32, .u32] n) : Sem Value).run Try.prog w = .ok (.bool (decide (m = n))) w ∧
    (do eqGuard .neq 62 x y (aggInts [.u32, .u32] m) (aggInts [.u32, .u32] n); binOp .neq 62 (aggInts [.u32, .u32] m) (aggInts [.u32, .u32] n) : Sem Value).run Try.prog w = .ok (.bool (decide (m ≠ n))) w :=
  eqs_by_arr (N := 2) w x y hm hn (by kernel_rfl) Try.underlying62 Try.underlying54 (i := (Try.prog.info? 54).getD default) (by kernel_rfl) (by decide +kernel)
theorem ti62 : TiOk Try.prog 62 { size := 2, bytes := 8, zero := [.int .u32 0, .int .u32 0], kind := .array 2 54, eqk := [.u32, .u32] } := tiOk_mk info62 rfl rfl rfl (by decide) (Try.underlying62) (by decide) (fun _ => eqs62)
theorem info63 : (Try.prog.info? 63).map (fun i => (i.zero, i.size, i.bytes)) = some (some (.int .u16 0), 1, 2) := by kernel_rfl
theorem ti63 : TiOk Try.prog 63 { size := 1, bytes := 2, zero := [.int .u16 0], kind := .int .u16 } := tiOk_mk info63 rfl rfl rfl (by decide) (Try.underlying63) (by decide) (fun h => absurd rfl h)
theorem info64 : (Try.prog.info? 64).map (fun i => (i.zero, i.size, i.bytes)) = some (some (.agg #[.int .u16 0, .int .u16 0, .int .u16 0]), 3, 6) := by kernel_rfl
theorem eqs64 (w : World) (x y : Operand) (m n : List Int) (hm : m.length = 3) (hn : n.length = 3) :
    (do eqGuard .eql 64 x y (aggInts [.u16, .u16, .u16] m) (aggInts [.u16, .u16, .u16] n); binOp .eql 64 (aggInts [.u16, .u16, .u16] m) (aggInts [.u16, .u16, .u16] n) : Sem Value).run Try.prog w = .ok (.bool (decide (m = n))) w ∧
    (do eqGuard .neq 64 x y (aggInts [.u16, .u16, .u16] m) (aggInts [.u16, .u16, .u16] n); binOp .neq 64 (aggInts [.u16, .u16, .u16] m) (aggInts [.u16, .u16, .u16] n) : Sem Value).run Try.prog w = .ok (.bool (decide (m ≠ n))) w :=
  eqs_by_arr (N := 3) w x y hm hn (by kernel_rfl) Try.underlying64 Try.underlying63 (i := (Try.prog.info? 63).getD default) (by kernel_rfl) (by decide +kernel)
theorem ti64 : TiOk Try.prog 64 { size := 3, bytes := 6, zero := [.int .u16 0, .int .u16 0, .int .u16 0], kind := .array 3 63, eqk := [.u16, .u16, .u16] } := tiOk_mk info64 rfl rfl rfl (by decide) (Try.underlying64) (by decide) (fun _ => eqs64)
theorem info66 : (Try.prog.info? 66).map (fun i => (i.zero, i.size, i.bytes)) = some (some (.nilFunc), 1, 8) := by kernel_rfl
theorem ti66 : TiOk Try.prog 66 { size := 1, bytes := 8, zero := [.nilFunc], kind := .cell } := tiOk_mk info66 rfl rfl rfl (by decide) (⟨_, Try.underlying66, fun _ h => TypeDesc.noConfusion h, fun _ _ h => TypeDesc.noConfusion h⟩) (by decide) (fun h => absurd rfl h)
theorem info67 : (Try.prog.info? 67).map (fun i => (i.zero, i.size, i.bytes)) = some (some (.nilFunc), 1, 8) := by kernel_rfl
theorem ti67 : TiOk Try.prog 67 { size := 1, bytes := 8, zero := [.nilFunc], kind := .cell } := tiOk_mk info67 rfl rfl rfl (by decide) (⟨_, Try.underlying67, fun _ h => TypeDesc.noConfusion h, fun _ _ h => TypeDesc.noConfusion h⟩) (by decide) (fun h => absurd rfl h)
theorem info68 : (Try.prog.info? 68).map (fun i => (i.zero, i.size, i.bytes)) = some (some (.slice none 0 0), 1, 24) := by kernel_rfl
theorem ti68 : TiOk Try.prog 68 { size := 1, bytes := 24, zero := [.slice none 0 0], kind := .slice 25 } := tiOk_mk info68 rfl rfl rfl (by decide) (Try.underlying68) (by decide) (fun h => absurd rfl h)
theorem info69 : (Try.prog.info? 69).map (fun i => (i.zero, i.size, i.bytes)) = some (some (.nilFunc), 1, 8) := by kernel_rfl
theorem ti69 : TiOk Try.prog 69 { size := 1, bytes := 8, zero := [.nilFunc], kind := .cell } := tiOk_mk info69 rfl rfl rfl (by decide) (⟨_, Try.underlying69, fun _ h => TypeDesc.noConfusion h, fun _ _ h => TypeDesc.noConfusion h⟩) (by decide) (fun h => absurd rfl h)
theorem info70 : (Try.prog.info? 70).map (fun i => (i.zero, i.size, i.bytes)) = some (some (.nilFunc), 1, 8) := by kernel_rfl
theorem ti70 : TiOk Try.prog 70 { size := 1, bytes := 8, zero := [.nilFunc], kind := .cell } := tiOk_mk info70 rfl rfl rfl (by decide) (⟨_, Try.underlying70, fun _ h => TypeDesc.noConfusion h, fun _ _ h => TypeDesc.noConfusion h⟩) (by decide) (fun h => absurd rfl h)
theorem info71 : (Try.prog.info? 71).map (fun i => (i.zero, i.size, i.bytes)) = some (some (.nilFunc), 1, 8) := by kernel_rfl
theorem ti71 : TiOk Try.prog 71 { size := 1, bytes := 8, zero := [.nilFunc], kind := .cell } := tiOk_mk info71 rfl rfl rfl (by decide) (⟨_, Try.underlying71, fun _ h => TypeDesc.noConfusion h, fun _ _ h => TypeDesc.noConfusion h⟩) (by decide) (fun h => absurd rfl h)
theorem info72 : (Try.prog.info? 72).map (fun i => (i.zero, i.size, i.bytes)) = some (some (.nilFunc), 1, 8) := by kernel_rfl
theorem ti72 : TiOk Try.prog 72 { size := 1, bytes := 8, zero := [.nilFunc], kind := .cell } := tiOk_mk info72 rfl rfl rfl (by decide) (⟨_, Try.underlying72, fun _ h => TypeDesc.noConfusion h, fun _ _ h => TypeDesc.noConfusion h⟩) (by decide) (fun h => absurd rfl h)
theorem info73 : (Try.prog.info? 73).map (fun i => (i.zero, i.size, i.bytes)) = some (some (.nilFunc), 1, 8) := by kernel_rfl
theorem ti73 : TiOk Try.prog 73 { size := 1, bytes := 8, zero := [.nilFunc], kind := .cell } := tiOk_mk info73 rfl rfl rfl (by decide) (⟨_, Try.underlying73, fun _ h => TypeDesc.noConfusion h, fun _ _ h => TypeDesc.noConfusion h⟩) (by decide) (fun h => absurd rfl h)
theorem info74 : (Try.prog.info? 74).map (fun i => (i.zero, i.size, i.bytes)) = some (some (.slice none 0 0), 1, 24) := by kernel_rfl
theorem ti74 : TiOk Try.prog 74 { size := 1, bytes := 24, zero := [.slice none 0 0], kind := .slice 23 } := tiOk_mk info74 rfl rfl rfl (by decide) (Try.underlying74) (by decide) (fun h => absurd rfl h)
theorem info75 : (Try.prog.info? 75).map (fun i => (i.zero, i.size, i.bytes)) = some (some (.nilFunc), 1, 8) := by kernel_rfl
theorem ti75 : TiOk Try.prog 75 { size := 1, bytes := 8, zero := [.nilFunc], kind := .cell } := tiOk_mk info75 rfl rfl rfl (by decide) (⟨_, Try.underlying75, fun _ h => TypeDesc.noConfusion h, fun _ _ h => TypeDesc.noConfusion h⟩) (by decide) (fun h => absurd rfl h)
theorem info76 : (Try.prog.info? 76).map (fun i => (i.zero, i.size, i.bytes)) = some (some (.pointer none), 1, 8) := by kernel_rfl
theorem ti76 : TiOk Try.prog 76 { size := 1, bytes := 8, zero := [.pointer none], kind := .cell } := tiOk_mk info76 rfl rfl rfl (by decide) (⟨_, Try.underlying76, fun _ h => TypeDesc.noConfusion h, fun _ _ h => TypeDesc.noConfusion h⟩) (by decide) (fun h => absurd rfl h)
theorem info78 : (Try.prog.info? 78).map (fun i => (i.zero, i.size, i.bytes)) = some (some (.nilFunc), 1, 8) := by kernel_rfl
theorem ti78 : TiOk Try.prog 78 { size := 1, bytes := 8, zero := [.nilFunc], kind := .cell } := tiOk_mk info78 rfl rfl rfl (by decide) (⟨_, Try.underlying78, fun _ h => TypeDesc.noConfusion h, fun _ _ h => TypeDesc.noConfusion h⟩) (by decide) (fun h => absurd rfl h)
theorem info79 : (Try.prog.info? 79).map (fun i => (i.zero, i.size, i.bytes)) = some (some (.nilFunc), 1, 8) := by kernel_rfl
theorem ti79 : TiOk Try.prog 79 { size := 1, bytes := 8, zero := [.nilFunc], kind := .cell } := tiOk_mk info79 rfl rfl rfl (by decide) (⟨_, Try.underlying79, fun _ h => TypeDesc.noConfusion h, fun _ _ h => TypeDesc.noConfusion h⟩) (by decide) (fun h => absurd rfl h)
theorem info80 : (Try.prog.info? 80).map (fun i => (i.zero, i.size, i.bytes)) = some (some (.agg #[.int .i64 0, .int .i64 0, .int .i64 0, .int .i64 0, .int .i64 0, .int .i64 0, .int .i64 0, .int .i64 0, .int .i64 0, .int .i64 0, .int .i64 0, .int .i64 0, .int .i64 0, .int .i64 0, .int .i64 0, .int .i64 0, .int .i64 0, .int .i64 0, .int .i64 0, .int .i64 0, .int .i64 0, .int .i64 0, .int .i64 0, .int .i64 0]), 24, 192) := by kernel_rfl
theorem ti80 : TiOk Try.prog 80 { size := 24, bytes := 192, zero := [.int .i64 0, .int .i64 0, .int .i64 0, .int .i64 0, .int .i64 0, .int .i64 0, .int .i64 0, .int .i64 0, .int .i64 0, .int .i64 0, .int .i64 0, .int .i64 0, .int .i64 0, .int .i64 0, .int .i64 0, .int .i64 0, .int .i64 0, .int .i64 0, .int .i64 0, .int .i64 0, .int .i64 0, .int .i64 0, .int .i64 0, .int .i64 0], kind := .array 12 23 } := tiOk_mk info80 rfl rfl rfl (by decide) (Try.underlying80) (by decide) (fun h => absurd rfl h)
theorem info81 : (Try.prog.info? 81).map (fun i => (i.zero, i.size, i.bytes)) = some (some (.agg #[.int .i64 0, .int .i64 0, .int .i64 0, .int .i64 0, .int .i64 0, .int .i64 0, .int .i64 0, .int .i64 0, .int .i64 0, .int .i64 0, .int .i64 0, .int .i64 0, .int .i64 0, .int .i64 0, .int .i64 0, .int .i64 0, .int .i64 0, .int .i64 0, .int .i64 0, .int .i64 0, .int .i64 0, .int .i64 0, .int .i64 0, .int .i64 0]), 24, 192) := by kernel_rfl
theorem ti81 : TiOk Try.prog 81 { size := 24, bytes := 192, zero := [.int .i64 0, .int .i64 0, .int .i64 0, .int .i64 0, .int .i64 0, .int .i64 0, .int .i64 0, .int .i64 0, .int .i64 0, .int .i64 0, .int .i64 0, .int .i64 0, .int .i64 0, .int .i64 0, .int .i64 0, .int .i64 0, .int .i64 0, .int .i64 0, .int .i64 0, .int .i64 0, .int .i64 0, .int .i64 0, .int .i64 0, .int .i64 0], kind := .array 12 23 } := tiOk_mk info81 rfl rfl rfl (by decide) (Try.underlying81) (by decide) (fun h => absurd rfl h)
theorem info82 : (Try.prog.info? 82).map (fun i => (i.zero, i.size, i.bytes)) = some (some (.agg #[.int .i64 0, .int .i64 0, .int .i64 0, .int .i64 0, .int .i64 0, .slice none 0 0, .int .i64 0, .int .i64 0, .int .i64 0, .int .i64 0, .int .i64 0, .int .i64 0, .int .i64 0, .int .i64 0, .int .i64 0, .int .i64 0, .int .i64 0, .int .i64 0, .int .i64 0, .int .i64 0, .int .i64 0, .int .i64 0, .int .i64 0, .int .i64 0, .int .i64 0, .int .i64 0, .int .i64 0, .int .i64 0, .int .i64 0, .int .i64 0]), 30, 256) := by kernel_rfl
theorem ti82 : TiOk Try.prog 82 { size := 30, bytes := 256, zero := [.int .i64 0, .int .i64 0, .int .i64 0, .int .i64 0, .int .i64 0, .slice none 0 0, .int .i64 0, .int .i64 0, .int .i64 0, .int .i64 0, .int .i64 0, .int .i64 0, .int .i64 0, .int .i64 0, .int .i64 0, .int .i64 0, .int .i64 0, .int .i64 0, .int .i64 0, .int .i64 0, .int .i64 0, .int .i64 0, .int .i64 0, .int .i64 0, .int .i64 0, .int .i64 0, .int .i64 0, .int .i64 0, .int .i64 0, .int .i64 0], kind := .struct [(0, 25), (5, 26), (6, 81)] } := tiOk_mk info82 rfl rfl rfl (by decide) (⟨_, Try.underlying82, rfl⟩) (by decide) (fun h => absurd rfl h)
theorem info83 : (Try.prog.info? 83).map (fun i => (i.zero, i.size, i.bytes)) = some (some (.agg #[.int .i64 0, .int .i64 0, .int .i64 0, .int .i64 0, .int .i64 0, .slice none 0 0, .int .i64 0, .int .i64 0, .int .i64 0, .int .i64 0, .int .i64 0, .int .i64 0, .int .i64 0, .int .i64 0, .int .i64 0, .int .i64 0, .int .i64 0, .int .i64 0, .int .i64 0, .int .i64 0, .int .i64 0, .int .i64 0, .int .i64 0, .int .i64 0, .int .i64 0, .int .i64 0, .int .i64 0, .int .i64 0, .int .i64 0, .int .i64 0]), 30, 256) := by kernel_rfl
theorem ti83 : TiOk Try.prog 83 { size := 30, bytes := 256, zero := [.int .i64 0, .int .i64 0, .int .i64 0, .int .i64 0, .int .i64 0, .slice none 0 0, .int .i64 0, .int .i64 0, .int .i64 0, .int .i64 0, .int .i64 0, .int .i64 0, .int .i64 0, .int .i64 0, .int .i64 0, .int .i64 0, .int .i64 0, .int .i64 0, .int .i64 0, .int .i64 0, .int .i64 0, .int .i64 0, .int .i64 0, .int .i64 0, .int .i64 0, .int .i64 0, .int .i64 0, .int .i64 0, .int .i64 0, .int .i64 0], kind := .struct [(0, 25), (5, 26), (6, 81)] } := tiOk_mk info83 rfl rfl rfl (by decide) (⟨_, Try.underlying83, rfl⟩) (by decide) (fun h => absurd rfl h)
theorem info84 : (Try.prog.info? 84).map (fun i => (i.zero, i.size, i.bytes)) = some (some (.nilFunc), 1, 8) := by kernel_rfl
theorem ti84 : TiOk Try.prog 84 { size := 1, bytes := 8, zero := [.nilFunc], kind := .cell } := tiOk_mk info84 rfl rfl rfl (by decide) (⟨_, Try.underlying84, fun _ h => TypeDesc.noConfusion h, fun _ _ h => TypeDesc.noConfusion h⟩) (by decide) (fun h => absurd rfl h)
theorem info86 : (Try.prog.info? 86).map (fun i => (i.zero, i.size, i.bytes)) = some (some (.nilFunc), 1, 8) := by kernel_rfl
theorem ti86 : TiOk Try.prog 86 { size := 1, bytes := 8, zero := [.nilFunc], kind := .cell } := tiOk_mk info86 rfl rfl rfl (by decide) (⟨_, Try.underlying86, fun _ h => TypeDesc.noConfusion h, fun _ _ h => TypeDesc.noConfusion h⟩) (by decide) (fun h => absurd rfl h)
theorem info87 : (Try.prog.info? 87).map (fun i => (i.zero, i.size, i.bytes)) = some (some (.nilFunc), 1, 8) := by kernel_rfl
theorem ti87 : TiOk Try.prog 87 { size := 1, bytes := 8, zero := [.nilFunc], kind := .cell } := tiOk_mk info87 rfl rfl rfl (by decide) (⟨_, Try.underlying87, fun _ h => TypeDesc.noConfusion h, fun _ _ h => TypeDesc.noConfusion h⟩) (by decide) (fun h => absurd rfl h)
theorem info88 : (Try.prog.info? 88).map (fun i => (i.zero, i.size, i.bytes)) = some (some (.nilFunc), 1, 8) := by kernel_rfl
theorem ti88 : TiOk Try.prog 88 { size := 1, bytes := 8, zero := [.nilFunc], kind := .cell } := tiOk_mk info88 rfl rfl rfl (by decide) (⟨_, Try.underlying88, fun _ h => TypeDesc.noConfusion h, fun _ _ h => TypeDesc.noConfusion h⟩) (by decide) (fun h => absurd rfl h)
theorem info89 : (Try.prog.info? 89).map (fun i => (i.zero, i.size, i.bytes)) = some (some (.nilFunc), 1, 8) := by kernel_rfl
theorem ti89 : TiOk Try.prog 89 { size := 1, bytes := 8, zero := [.nilFunc], kind := .cell } := tiOk_mk info89 rfl rfl rfl (by decide) (⟨_, Try.underlying89, fun _ h => TypeDesc.noConfusion h, fun _ _ h => TypeDesc.noConfusion h⟩) (by decide) (fun h => absurd rfl h)
theorem info90 : (Try.prog.info? 90).map (fun i => (i.zero, i.size, i.bytes)) = some (some (.nilFunc), 1, 8) := by kernel_rfl
theorem ti90 : TiOk Try.prog 90 { size := 1, bytes := 8, zero := [.nilFunc], kind := .cell } := tiOk_mk info90 rfl rfl rfl (by decide) (⟨_, Try.underlying90, fun _ h => TypeDesc.noConfusion h, fun _ _ h => TypeDesc.noConfusion h⟩) (by decide) (fun h => absurd rfl h)
theorem info91 : (Try.prog.info? 91).map (fun i => (i.zero, i.size, i.bytes)) = some (some (.nilFunc), 1, 8) := by kernel_rfl
theorem ti91 : TiOk Try.prog 91 { size := 1, bytes := 8, zero := [.nilFunc], kind := .cell } := tiOk_mk info91 rfl rfl rfl (by decide) (⟨_, Try.underlying91, fun _ h => TypeDesc.noConfusion h, fun _ _ h => TypeDesc.noConfusion h⟩) (by decide) (fun h => absurd rfl h)
theorem info92 : (Try.prog.info? 92).map (fun i => (i.zero, i.size, i.bytes)) = some (some (.nilFunc), 1, 8) := by kernel_rfl
theorem ti92 : TiOk Try.prog 92 { size := 1, bytes := 8, zero := [.nilFunc], kind := .cell } := tiOk_mk info92 rfl rfl rfl (by decide) (⟨_, Try.underlying92, fun _ h => TypeDesc.noConfusion h, fun _ _ h => TypeDesc.noConfusion h⟩) (by decide) (fun h => absurd rfl h)
theorem info93 : (Try.prog.info? 93).map (fun i => (i.zero, i.size, i.bytes)) = some (some (.nilFunc), 1, 8) := by kernel_rfl
theorem ti93 : TiOk Try.prog 93 { size := 1, bytes := 8, zero := [.nilFunc], kind := .cell } := tiOk_mk info93 rfl rfl rfl (by decide) (⟨_, Try.underlying93, fun _ h => TypeDesc.noConfusion h, fun _ _ h => TypeDesc.noConfusion h⟩) (by decide) (fun h => absurd rfl h)
theorem info94 : (Try.prog.info? 94).map (fun i => (i.zero, i.size, i.bytes)) = some (some (.nilFunc), 1, 8) := by kernel_rfl
theorem ti94 : TiOk Try.prog 94 { size := 1, bytes := 8, zero := [.nilFunc], kind := .cell } := tiOk_mk info94 rfl rfl rfl (by decide) (⟨_, Try.underlying94, fun _ h => TypeDesc.noConfusion h, fun _ _ h => TypeDesc.noConfusion h⟩) (by decide) (fun h => absurd rfl h)
theorem info95 : (Try.prog.info? 95).map (fun i => (i.zero, i.size, i.bytes)) = some (some (.nilFunc), 1, 8) := by kernel_rfl
theorem ti95 : TiOk Try.prog 95 { size := 1, bytes := 8, zero := [.nilFunc], kind := .cell } := tiOk_mk info95 rfl rfl rfl (by decide) (⟨_, Try.underlying95, fun _ h => TypeDesc.noConfusion h, fun _ _ h => TypeDesc.noConfusion h⟩) (by decide) (fun h => absurd rfl h)
theorem info96 : (Try.prog.info? 96).map (fun i => (i.zero, i.size, i.bytes)) = some (some (.nilFunc), 1, 8) := by kernel_rfl
theorem ti96 : TiOk Try.prog 96 { size := 1, bytes := 8, zero := [.nilFunc], kind := .cell } := tiOk_mk info96 rfl rfl rfl (by decide) (⟨_, Try.underlying96, fun _ h => TypeDesc.noConfusion h, fun _ _ h => TypeDesc.noConfusion h⟩) (by decide) (fun h => absurd rfl h)
theorem info97 : (Try.prog.info? 97).map (fun i => (i.zero, i.size, i.bytes)) = some (some (.nilFunc), 1, 8) := by kernel_rfl
theorem ti97 : TiOk Try.prog 97 { size := 1, bytes := 8, zero := [.nilFunc], kind := .cell } := tiOk_mk info97 rfl rfl rfl (by decide) (⟨_, Try.underlying97, fun _ h => TypeDesc.noConfusion h, fun _ _ h => TypeDesc.noConfusion h⟩) (by decide) (fun h => absurd rfl h)
theorem info98 : (Try.prog.info? 98).map (fun i => (i.zero, i.size, i.bytes)) = some (some (.nilFunc), 1, 8) := by kernel_rfl
theorem ti98 : TiOk Try.prog 98 { size := 1, bytes := 8, zero := [.nilFunc], kind := .cell } := tiOk_mk info98 rfl rfl rfl (by decide) (⟨_, Try.underlying98, fun _ h => TypeDesc.noConfusion h, fun _ _ h => TypeDesc.noConfusion h⟩) (by decide) (fun h => absurd rfl h)
theorem info99 : (Try.prog.info? 99).map (fun i => (i.zero, i.size, i.bytes)) = some (some (.nilFunc), 1, 8) := by kernel_rfl
theorem ti99 : TiOk Try.prog 99 { size := 1, bytes := 8, zero := [.nilFunc], kind := .cell } := tiOk_mk info99 rfl rfl rfl (by decide) (⟨_, Try.underlying99, fun _ h => TypeDesc.noConfusion h, fun _ _ h => TypeDesc.noConfusion h⟩) (by decide) (fun h => absurd rfl h)
theorem info100 : (Try.prog.info? 100).map (fun i => (i.zero, i.size, i.bytes)) = some (some (.nilFunc), 1, 8) := by kernel_rfl
theorem ti100 : TiOk Try.prog 100 { size := 1, bytes := 8, zero := [.nilFunc], kind := .cell } := tiOk_mk info100 rfl rfl rfl (by decide) (⟨_, Try.underlying100, fun _ h => TypeDesc.noConfusion h, fun _ _ h => TypeDesc.noConfusion h⟩) (by decide) (fun h => absurd rfl h)
theorem info102 : (Try.prog.info? 102).map (fun i => (i.zero, i.size, i.bytes)) = some (some (.nilFunc), 1, 8) := by kernel_rfl
theorem ti102 : TiOk Try.prog 102 { size := 1, bytes := 8, zero := [.nilFunc], kind := .cell } := tiOk_mk info102 rfl rfl rfl (by decide) (⟨_, Try.underlying102, fun _ h => TypeDesc.noConfusion h, fun _ _ h => TypeDesc.noConfusion h⟩) (by decide) (fun h => absurd rfl h)
theorem info103 : (Try.prog.info? 103).map (fun i => (i.zero, i.size, i.bytes)) = some (some (.nilFunc), 1, 8) := by kernel_rfl
theorem ti103 : TiOk Try.prog 103 { size := 1, bytes := 8, zero := [.nilFunc], kind := .cell } := tiOk_mk info103 rfl rfl rfl (by decide) (⟨_, Try.underlying103, fun _ h => TypeDesc.noConfusion h, fun _ _ h => TypeDesc.noConfusion h⟩) (by decide) (fun h => absurd rfl h)
theorem info104 : (Try.prog.info? 104).map (fun i => (i.zero, i.size, i.bytes)) = some (some (.nilFunc), 1, 8) := by kernel_rfl
theorem ti104 : TiOk Try.prog 104 { size := 1, bytes := 8, zero := [.nilFunc], kind := .cell } := tiOk_mk info104 rfl rfl rfl (by decide) (⟨_, Try.underlying104, fun _ h => TypeDesc.noConfusion h, fun _ _ h => TypeDesc.noConfusion h⟩) (by decide) (fun h => absurd rfl h)
theorem info105 : (Try.prog.info? 105).map (fun i => (i.zero, i.size, i.bytes)) = some (some (.nilFunc), 1, 8) := by kernel_rfl
theorem ti105 : TiOk Try.prog 105 { size := 1, bytes := 8, zero := [.nilFunc], kind := .cell } := tiOk_mk info105 rfl rfl rfl (by decide) (⟨_, Try.underlying105, fun _ h => TypeDesc.noConfusion h, fun _ _ h => TypeDesc.noConfusion h⟩) (by decide) (fun h => absurd rfl h)
theorem info106 : (Try.prog.info? 106).map (fun i => (i.zero, i.size, i.bytes)) = some (some (.nilFunc), 1, 8) := by kernel_rfl
theorem ti106 : TiOk Try.prog 106 { size := 1, bytes := 8, zero := [.nilFunc], kind := .cell } := tiOk_mk info106 rfl rfl rfl (by decide) (⟨_, Try.underlying106, fun _ h => TypeDesc.noConfusion h, fun _ _ h => TypeDesc.noConfusion h⟩) (by decide) (fun h => absurd rfl h)
theorem info107 : (Try.prog.info? 107).map (fun i => (i.zero, i.size, i.bytes)) = some (some (.nilFunc), 1, 8) := by kernel_rfl
theorem ti107 : TiOk Try.prog 107 { size := 1, bytes := 8, zero := [.nilFunc], kind := .cell } := tiOk_mk info107 rfl rfl rfl (by decide) (⟨_, Try.underlying107, fun _ h => TypeDesc.noConfusion h, fun _ _ h => TypeDesc.noConfusion h⟩) (by decide) (fun h => absurd rfl h)
theorem info108 : (Try.prog.info? 108).map (fun i => (i.zero, i.size, i.bytes)) = some (some (.nilFunc), 1, 8) := by kernel_rfl
theorem ti108 : TiOk Try.prog 108 { size := 1, bytes := 8, zero := [.nilFunc], kind := .cell } := tiOk_mk info108 rfl rfl rfl (by decide) (⟨_, Try.underlying108, fun _ h => TypeDesc.noConfusion h, fun _ _ h => TypeDesc.noConfusion h⟩) (by decide) (fun h => absurd rfl h)
theorem info109 : (Try.prog.info? 109).map (fun i => (i.zero, i.size, i.bytes)) = some (some (.nilFunc), 1, 8) := by kernel_rfl
theorem ti109 : TiOk Try.prog 109 { size := 1, bytes := 8, zero := [.nilFunc], kind := .cell } := tiOk_mk info109 rfl rfl rfl (by decide) (⟨_, Try.underlying109, fun _ h => TypeDesc.noConfusion h, fun _ _ h => TypeDesc.noConfusion h⟩) (by decide) (fun h => absurd rfl h)
theorem info110 : (Try.prog.info? 110).map (fun i => (i.zero, i.size, i.bytes)) = some (some (.nilFunc), 1, 8) := by kernel_rfl
theorem ti110 : TiOk Try.prog 110 { size := 1, bytes := 8, zero := [.nilFunc], kind := .cell } := tiOk_mk info110 rfl rfl rfl (by decide) (⟨_, Try.underlying110, fun _ h => TypeDesc.noConfusion h, fun _ _ h => TypeDesc.noConfusion h⟩) (by decide) (fun h => absurd rfl h)
theorem info111 : (Try.prog.info? 111).map (fun i => (i.zero, i.size, i.bytes)) = some (some (.nilFunc), 1, 8) := by kernel_rfl
theorem ti111 : TiOk Try.prog 111 { size := 1, bytes := 8, zero := [.nilFunc], kind := .cell } := tiOk_mk info111 rfl rfl rfl (by decide) (⟨_, Try.underlying111, fun _ h => TypeDesc.noConfusion h, fun _ _ h => TypeDesc.noConfusion h⟩) (by decide) (fun h => absurd rfl h)
theorem info112 : (Try.prog.info? 112).map (fun i => (i.zero, i.size, i.bytes)) = some (some (.nilFunc), 1, 8) := by kernel_rfl
theorem ti112 : TiOk Try.prog 112 { size := 1, bytes := 8, zero := [.nilFunc], kind := .cell } := tiOk_mk info112 rfl rfl rfl (by decide) (⟨_, Try.underlying112, fun _ h => TypeDesc.noConfusion h, fun _ _ h => TypeDesc.noConfusion h⟩) (by decide) (fun h => absurd rfl h)
theorem info113 : (Try.prog.info? 113).map (fun i => (i.zero, i.size, i.bytes)) = some (some (.nilFunc), 1, 8) := by kernel_rfl
theorem ti113 : TiOk Try.prog 113 { size := 1, bytes := 8, zero := [.nilFunc], kind := .cell } := tiOk_mk info113 rfl rfl rfl (by decide) (⟨_, Try.underlying113, fun _ h => TypeDesc.noConfusion h, fun _ _ h => TypeDesc.noConfusion h⟩) (by decide) (fun h => absurd rfl h)
theorem info114 : (Try.prog.info? 114).map (fun i => (i.zero, i.size, i.bytes)) = some (some (.nilFunc), 1, 8) := by kernel_rfl
theorem ti114 : TiOk Try.prog 114 { size := 1, bytes := 8, zero := [.nilFunc], kind := .cell } := tiOk_mk info114 rfl rfl rfl (by decide) (⟨_, Try.underlying114, fun _ h => TypeDesc.noConfusion h, fun _ _ h => TypeDesc.noConfusion h⟩) (by decide) (fun h => absurd rfl h)
theorem info115 : (Try.prog.info? 115).map (fun i => (i.zero, i.size, i.bytes)) = some (some (.map none), 1, 8) := by kernel_rfl
theorem ti115 : TiOk Try.prog 115 { size := 1, bytes := 8, zero := [.map none], kind := .cell } := tiOk_mk info115 rfl rfl rfl (by decide) (⟨_, Try.underlying115, fun _ h => TypeDesc.noConfusion h, fun _ _ h => TypeDesc.noConfusion h⟩) (by decide) (fun h => absurd rfl h)
theorem info116 : (Try.prog.info? 116).map (fun i => (i.zero, i.size, i.bytes)) = some (some (.nilFunc), 1, 8) := by kernel_rfl
theorem ti116 : TiOk Try.prog 116 { size := 1, bytes := 8, zero := [.nilFunc], kind := .cell } := tiOk_mk info116 rfl rfl rfl (by decide) (⟨_, Try.underlying116, fun _ h => TypeDesc.noConfusion h, fun _ _ h => TypeDesc.noConfusion h⟩) (by decide) (fun h => absurd rfl h)
theorem info117 : (Try.prog.info? 117).map (fun i => (i.zero, i.size, i.bytes)) = some (some (.nilFunc), 1, 8) := by kernel_rfl
theorem ti117 : TiOk Try.prog 117 { size := 1, bytes := 8, zero := [.nilFunc], kind := .cell } := tiOk_mk info117 rfl rfl rfl (by decide) (⟨_, Try.underlying117, fun _ h => TypeDesc.noConfusion h, fun _ _ h => TypeDesc.noConfusion h⟩) (by decide) (fun h => absurd rfl h)
theorem info118 : (Try.prog.info? 118).map (fun i => (i.zero, i.size, i.bytes)) = some (some (.nilFunc), 1, 8) := by kernel_rfl
theorem ti118 : TiOk Try.prog 118 { size := 1, bytes := 8, zero := [.nilFunc], kind := .cell } := tiOk_mk info118 rfl rfl rfl (by decide) (⟨_, Try.underlying118, fun _ h => TypeDesc.noConfusion h, fun _ _ h => TypeDesc.noConfusion h⟩) (by decide) (fun h => absurd rfl h)
theorem info119 : (Try.prog.info? 119).map (fun i => (i.zero, i.size, i.bytes)) = some (some (.nilFunc), 1, 8) := by kernel_rfl
theorem ti119 : TiOk Try.prog 119 { size := 1, bytes := 8, zero := [.nilFunc], kind := .cell } := tiOk_mk info119 rfl rfl rfl (by decide) (⟨_, Try.underlying119, fun _ h => TypeDesc.noConfusion h, fun _ _ h => TypeDesc.noConfusion h⟩) (by decide) (fun h => absurd rfl h)
theorem info120 : (Try.prog.info? 120).map (fun i => (i.zero, i.size, i.bytes)) = some (some (.nilFunc), 1, 8) := by kernel_rfl
theorem ti120 : TiOk Try.prog 120 { size := 1, bytes := 8, zero := [.nilFunc], kind := .cell } := tiOk_mk info120 rfl rfl rfl (by decide) (⟨_, Try.underlying120, fun _ h => TypeDesc.noConfusion h, fun _ _ h => TypeDesc.noConfusion h⟩) (by decide) (fun h => absurd rfl h)
theorem info121 : (Try.prog.info? 121).map (fun i => (i.zero, i.size, i.bytes)) = some (some (.nilFunc), 1, 8) := by kernel_rfl
theorem ti121 : TiOk Try.prog 121 { size := 1, bytes := 8, zero := [.nilFunc], kind := .cell } := tiOk_mk info121 rfl rfl rfl (by decide) (⟨_, Try.underlying121, fun _ h => TypeDesc.noConfusion h, fun _ _ h => TypeDesc.noConfusion h⟩) (by decide) (fun h => absurd rfl h)
theorem info122 : (Try.prog.info? 122).map (fun i => (i.zero, i.size, i.bytes)) = some (some (.nilFunc), 1, 8) := by kernel_rfl
theorem ti122 : TiOk Try.prog 122 { size := 1, bytes := 8, zero := [.nilFunc], kind := .cell } := tiOk_mk info122 rfl rfl rfl (by decide) (⟨_, Try.underlying122, fun _ h => TypeDesc.noConfusion h, fun _ _ h => TypeDesc.noConfusion h⟩) (by decide) (fun h => absurd rfl h)
theorem info123 : (Try.prog.info? 123).map (fun i => (i.zero, i.size, i.bytes)) = some (some (.nilFunc), 1, 8) := by kernel_rfl
theorem ti123 : TiOk Try.prog 123 { size := 1, bytes := 8, zero := [.nilFunc], kind := .cell } := tiOk_mk info123 rfl rfl rfl (by decide) (⟨_, Try.underlying123, fun _ h => TypeDesc.noConfusion h, fun _ _ h => TypeDesc.noConfusion h⟩) (by decide) (fun h => absurd rfl h)
theorem info124 : (Try.prog.info? 124).map (fun i => (i.zero, i.size, i.bytes)) = some (some (.agg #[.bool false, .bool false, .bool false, .bool false, .bool false, .bool false, .bool false, .bool false, .bool false, .bool false, .bool false, .bool false]), 12, 12) := by kernel_rfl
theorem ti124 : TiOk Try.prog 124 { size := 12, bytes := 12, zero := [.bool false, .bool false, .bool false, .bool false, .bool false, .bool false, .bool false, .bool false, .bool false, .bool false, .bool false, .bool false], kind := .array 12 4 } := tiOk_mk info124 rfl rfl rfl (by decide) (Try.underlying124) (by decide) (fun h => absurd rfl h)
theorem info125 : (Try.prog.info? 125).map (fun i => (i.zero, i.size, i.bytes)) = some (some (.slice none 0 0), 1, 24) := by kernel_rfl
theorem ti125 : TiOk Try.prog 125 { size := 1, bytes := 24, zero := [.slice none 0 0], kind := .slice 4 } := tiOk_mk info125 rfl rfl rfl (by decide) (Try.underlying125) (by decide) (fun h => absurd rfl h)
theorem info126 : (Try.prog.info? 126).map (fun i => (i.zero, i.size, i.bytes)) = some (some (.nilFunc), 1, 8) := by kernel_rfl
theorem ti126 : TiOk Try.prog 126 { size := 1, bytes := 8, zero := [.nilFunc], kind := .cell } := tiOk_mk info126 rfl rfl rfl (by decide) (⟨_, Try.underlying126, fun _ h => TypeDesc.noConfusion h, fun _ _ h => TypeDesc.noConfusion h⟩) (by decide) (fun h => absurd rfl h)
theorem info127 : (Try.prog.info? 127).map (fun i => (i.zero, i.size, i.bytes)) = some (some (.nilFunc), 1, 8) := by kernel_rfl
theorem ti127 : TiOk Try.prog 127 { size := 1, bytes := 8, zero := [.nilFunc], kind := .cell } := tiOk_mk info127 rfl rfl rfl (by decide) (⟨_, Try.underlying127, fun _ h => TypeDesc.noConfusion h, fun _ _ h => TypeDesc.noConfusion h⟩) (by decide) (fun h => absurd rfl h)
theorem info133 : (Try.prog.info? 133).map (fun i => (i.zero, i.size, i.bytes)) = some (some (.nilFunc), 1, 8) := by kernel_rfl
theorem ti133 : TiOk Try.prog 133 { size := 1, bytes := 8, zero := [.nilFunc], kind := .cell } := tiOk_mk info133 rfl rfl rfl (by decide) (⟨_, Try.underlying133, fun _ h => TypeDesc.noConfusion h, fun _ _ h => TypeDesc.noConfusion h⟩) (by decide) (fun h => absurd rfl h)
theorem info134 : (Try.prog.info? 134).map (fun i => (i.zero, i.size, i.bytes)) = some (some (.int .u8 0), 1, 1) := by kernel_rfl
theorem ti134 : TiOk Try.prog 134 { size := 1, bytes := 1, zero := [.int .u8 0], kind := .int .u8 } := tiOk_mk info134 rfl rfl rfl (by decide) (Try.underlying134) (by decide) (fun h => absurd rfl h)
theorem info135 : (Try.prog.info? 135).map (fun i => (i.zero, i.size, i.bytes)) = some (some (.int .u8 0), 1, 1) := by kernel_rfl
theorem ti135 : TiOk Try.prog 135 { size := 1, bytes := 1, zero := [.int .u8 0], kind := .int .u8 } := tiOk_mk info135 rfl rfl rfl (by decide) (Try.underlying135) (by decide) (fun h => absurd rfl h)
theorem info136 : (Try.prog.info? 136).map (fun i => (i.zero, i.size, i.bytes)) = some (some (.nilFunc), 1, 8) := by kernel_rfl
theorem ti136 : TiOk Try.prog 136 { size := 1, bytes := 8, zero := [.nilFunc], kind := .cell } := tiOk_mk info136 rfl rfl rfl (by decide) (⟨_, Try.underlying136, fun _ h => TypeDesc.noConfusion h, fun _ _ h => TypeDesc.noConfusion h⟩) (by decide) (fun h => absurd rfl h)
theorem info137 : (Try.prog.info? 137).map (fun i => (i.zero, i.size, i.bytes)) = some (some (.pointer none), 1, 8) := by kernel_rfl
theorem ti137 : TiOk Try.prog 137 { size := 1, bytes := 8, zero := [.pointer none], kind := .cell } := tiOk_mk info137 rfl rfl rfl (by decide) (⟨_, Try.underlying137, fun _ h => TypeDesc.noConfusion h, fun _ _ h => TypeDesc.noConfusion h⟩) (by decide) (fun h => absurd rfl h)
theorem info138 : (Try.prog.info? 138).map (fun i => (i.zero, i.size, i.bytes)) = some (some (.int .i32 0), 1, 4) := by kernel_rfl
theorem ti138 : TiOk Try.prog 138 { size := 1, bytes := 4, zero := [.int .i32 0], kind := .int .i32 } := tiOk_mk info138 rfl rfl rfl (by decide) (Try.underlying138) (by decide) (fun h => absurd rfl h)
theorem info139 : (Try.prog.info? 139).map (fun i => (i.zero, i.size, i.bytes)) = some (some (.int .i32 0), 1, 4) := by kernel_rfl
theorem ti139 : TiOk Try.prog 139 { size := 1, bytes := 4, zero := [.int .i32 0], kind := .int .i32 } := tiOk_mk info139 rfl rfl rfl (by decide) (Try.underlying139) (by decide) (fun h => absurd rfl h)
theorem info140 : (Try.prog.info? 140).map (fun i => (i.zero, i.size, i.bytes)) = some (some (.agg #[.int .u64 0, .int .u64 0, .int .u32 0, .int .u8 0, .int .u8 0, .int .u8 0, .int .u8 0, .nilFunc, .pointer none, .int .i32 0, .int .i32 0]), 11, 48) := by kernel_rfl
theorem ti140 : TiOk Try.prog 140 { size := 11, bytes := 48, zero := [.int .u64 0, .int .u64 0, .int .u32 0, .int .u8 0, .int .u8 0, .int .u8 0, .int .u8 0, .nilFunc, .pointer none, .int .i32 0, .int .i32 0], kind := .struct [(0, 12), (1, 12), (2, 54), (3, 134), (4, 5), (5, 5), (6, 135), (7, 136), (8, 137), (9, 138), (10, 139)] } := tiOk_mk info140 rfl rfl rfl (by decide) (⟨_, Try.underlying140, rfl⟩) (by decide) (fun h => absurd rfl h)
theorem info141 : (Try.prog.info? 141).map (fun i => (i.zero, i.size, i.bytes)) = some (some (.agg #[.int .u64 0, .int .u64 0, .int .u32 0, .int .u8 0, .int .u8 0, .int .u8 0, .int .u8 0, .nilFunc, .pointer none, .int .i32 0, .int .i32 0]), 11, 48) := by kernel_rfl
theorem ti141 : TiOk Try.prog 141 { size := 11, bytes := 48, zero := [.int .u64 0, .int .u64 0, .int .u32 0, .int .u8 0, .int .u8 0, .int .u8 0, .int .u8 0, .nilFunc, .pointer none, .int .i32 0, .int .i32 0], kind := .struct [(0, 12), (1, 12), (2, 54), (3, 134), (4, 5), (5, 5), (6, 135), (7, 136), (8, 137), (9, 138), (10, 139)] } := tiOk_mk info141 rfl rfl rfl (by decide) (⟨_, Try.underlying141, rfl⟩) (by decide) (fun h => absurd rfl h)
def TB : Tab
  | 1 => some { size := 1, bytes := 8, zero := [.nilFunc], kind := .cell }
  | 2 => some { size := 1, bytes := 8, zero := [.int .i64 0], kind := .int .i64 }
  | 3 => some { size := 1, bytes := 8, zero := [.int .i64 0], kind := .int .i64 }
  | 4 => some { size := 1, bytes := 1, zero := [.bool false], kind := .bool }
  | 5 => some { size := 1, bytes := 1, zero := [.int .u8 0], kind := .int .u8 }
  | 6 => some { size := 1, bytes := 1, zero := [.int .u8 0], kind := .int .u8 }
  | 7 => some { size := 4, bytes := 24, zero := [.int .i64 0, .int .i64 0, .bool false, .int .u8 0], kind := .struct [(0, 2), (1, 3), (2, 4), (3, 6)] }
  | 8 => some { size := 4, bytes := 24, zero := [.int .i64 0, .int .i64 0, .bool false, .int .u8 0], kind := .struct [(0, 2), (1, 3), (2, 4), (3, 6)] }
  | 12 => some { size := 1, bytes := 8, zero := [.int .u64 0], kind := .int .u64 }
  | 15 => some { size := 1, bytes := 8, zero := [.pointer none], kind := .cell }
  | 16 => some { size := 1, bytes := 8, zero := [.pointer none], kind := .cell }
  | 17 => some { size := 1, bytes := 8, zero := [.pointer none], kind := .cell }
  | 18 => some { size := 1, bytes := 8, zero := [.pointer none], kind := .struct [(0, 17)] }
  | 19 => some { size := 1, bytes := 8, zero := [.pointer none], kind := .struct [(0, 17)] }
  | 21 => some { size := 1, bytes := 4, zero := [.int .i32 0], kind := .int .i32 }
  | 22 => some { size := 2, bytes := 16, zero := [.int .i64 0, .int .i64 0], kind := .struct [(0, 2), (1, 2)], eqk := [.i64, .i64] }
  | 23 => some { size := 2, bytes := 16, zero := [.int .i64 0, .int .i64 0], kind := .struct [(0, 2), (1, 2)], eqk := [.i64, .i64] }
  | 24 => some { size := 5, bytes := 40, zero := [.int .i64 0, .int .i64 0, .int .i64 0, .int .i64 0, .int .i64 0], kind := .struct [(0, 2), (1, 2), (2, 2), (3, 23)] }
  | 25 => some { size := 5, bytes := 40, zero := [.int .i64 0, .int .i64 0, .int .i64 0, .int .i64 0, .int .i64 0], kind := .struct [(0, 2), (1, 2), (2, 2), (3, 23)] }
  | 26 => some { size := 1, bytes := 24, zero := [.slice none 0 0], kind := .slice 2 }
  | 27 => some { size := 1, bytes := 8, zero := [.nilFunc], kind := .cell }
  | 28 => some { size := 1, bytes := 8, zero := [.nilFunc], kind := .cell }
  | 29 => some { size := 1, bytes := 8, zero := [.int .i64 0], kind := .int .i64 }
  | 31 => some { size := 1, bytes := 8, zero := [.nilFunc], kind := .cell }
  | 33 => some { size := 1, bytes := 8, zero := [.nilFunc], kind := .cell }
  | 34 => some { size := 1, bytes := 8, zero := [.nilFunc], kind := .cell }
  | 35 => some { size := 1, bytes := 8, zero := [.nilFunc], kind := .cell }
  | 36 => some { size := 1, bytes := 24, zero := [.slice none 0 0], kind := .slice 59 }
  | 37 => some { size := 1, bytes := 8, zero := [.nilFunc], kind := .cell }
  | 38 => some { size := 1, bytes := 8, zero := [.nilFunc], kind := .cell }
  | 39 => some { size := 1, bytes := 8, zero := [.nilFunc], kind := .cell }
  | 41 => some { size := 1, bytes := 8, zero := [.nilFunc], kind := .cell }
  | 43 => some { size := 1, bytes := 8, zero := [.nilFunc], kind := .cell }
  | 44 => some { size := 1, bytes := 8, zero := [.nilFunc], kind := .cell }
  | 45 => some { size := 1, bytes := 8, zero := [.nilFunc], kind := .cell }
  | 46 => some { size := 1, bytes := 8, zero := [.nilFunc], kind := .cell }
  | 47 => some { size := 1, bytes := 8, zero := [.nilFunc], kind := .cell }
  | 48 => some { size := 1, bytes := 8, zero := [.nilFunc], kind := .cell }
  | 49 => some { size := 1, bytes := 24, zero := [.slice none 0 0], kind := .slice 3 }
  | 51 => some { size := 1, bytes := 8, zero := [.nilFunc], kind := .cell }
  | 52 => some { size := 1, bytes := 8, zero := [.nilFunc], kind := .cell }
  | 53 => some { size := 1, bytes := 8, zero := [.nilFunc], kind := .cell }
  | 54 => some { size := 1, bytes := 4, zero := [.int .u32 0], kind := .int .u32 }
  | 55 => some { size := 1, bytes := 24, zero := [.slice none 0 0], kind := .slice 36 }
  | 56 => some { size := 1, bytes := 8, zero := [.nilFunc], kind := .cell }
  | 57 => some { size := 1, bytes := 8, zero := [.nilFunc], kind := .cell }
  | 58 => some { size := 2, bytes := 16, zero := [.int .i64 0, .int .i64 0], kind := .struct [(0, 2), (1, 3)], eqk := [.i64, .i64] }
  | 59 => some { size := 2, bytes := 16, zero := [.int .i64 0, .int .i64 0], kind := .struct [(0, 2), (1, 3)], eqk := [.i64, .i64] }
  | 60 => some { size := 1, bytes := 8, zero := [.nilFunc], kind := .cell }
  | 61 => some { size := 1, bytes := 8, zero := [.nilFunc], kind := .cell }
  | 62 => some { size := 2, bytes := 8, zero := [.int .u32 0, .int .u32 0], kind := .array 2 54, eqk := [.u32, .u32] }
  | 63 => some { size := 1, bytes := 2, zero := [.int .u16 0], kind := .int .u16 }
  | 64 => some { size := 3, bytes := 6, zero := [.int .u16 0, .int .u16 0, .int .u16 0], kind := .array 3 63, eqk := [.u16, .u16, .u16] }
  | 66 => some { size := 1, bytes := 8, zero := [.nilFunc], kind := .cell }
  | 67 => some { size := 1, bytes := 8, zero := [.nilFunc], kind := .cell }
  | 68 => some { size := 1, bytes := 24, zero := [.slice none 0 0], kind := .slice 25 }
  | 69 => some { size := 1, bytes := 8, zero := [.nilFunc], kind := .cell }
  | 70 => some { size := 1, bytes := 8, zero := [.nilFunc], kind := .cell }
  | 71 => some { size := 1, bytes := 8, zero := [.nilFunc], kind := .cell }
  | 72 => some { size := 1, bytes := 8, zero := [.nilFunc], kind := .cell }
  | 73 => some { size := 1, bytes := 8, zero := [.nilFunc], kind := .cell }
  | 74 => some { size := 1, bytes := 24, zero := [.slice none 0 0], kind := .slice 23 }
  | 75 => some { size := 1, bytes := 8, zero := [.nilFunc], kind := .cell }
  | 76 => some { size := 1, bytes := 8, zero := [.pointer none], kind := .cell }
  | 78 => some { size := 1, bytes := 8, zero := [.nilFunc], kind := .cell }
  | 79 => some { size := 1, bytes := 8, zero := [.nilFunc], kind := .cell }
  | 80 => some { size := 24, bytes := 192, zero := [.int .i64 0, .int .i64 0, .int .i64 0, .int .i64 0, .int .i64 0, .int .i64 0, .int .i64 0, .int .i64 0, .int .i64 0, .int .i64 0, .int .i64 0, .int .i64 0, .int .i64 0, .int .i64 0, .int .i64 0, .int .i64 0, .int .i64 0, .int .i64 0, .int .i64 0, .int .i64 0, .int .i64 0, .int .i64 0, .int .i64 0, .int .i64 0], kind := .array 12 23 }
  | 81 => some { size := 24, bytes := 192, zero := [.int .i64 0, .int .i64 0, .int .i64 0, .int .i64 0, .int .i64 0, .int .i64 0, .int .i64 0, .int .i64 0, .int .i64 0, .int .i64 0, .int .i64 0, .int .i64 0, .int .i64 0, .int .i64 0, .int .i64 0, .int .i64 0, .int .i64 0, .int .i64 0, .int .i64 0, .int .i64 0, .int .i64 0, .int .i64 0, .int .i64 0, .int .i64 0], kind := .array 12 23 }
  | 82 => some { size := 30, bytes := 256, zero := [.int .i64 0, .int .i64 0, .int .i64 0, .int .i64 0, .int .i64 0, .slice none 0 0, .int .i64 0, .int .i64 0, .int .i64 0, .int .i64 0, .int .i64 0, .int .i64 0, .int .i64 0, .int .i64 0, .int .i64 0, .int .i64 0, .int .i64 0, .int .i64 0, .int .i64 0, .int .i64 0, .int .i64 0, .int .i64 0, .int .i64 0, .int .i64 0, .int .i64 0, .int .i64 0, .int .i64 0, .int .i64 0, .int .i64 0, .int .i64 0], kind := .struct [(0, 25), (5, 26), (6, 81)] }
  | 83 => some { size := 30, bytes := 256, zero := [.int .i64 0, .int .i64 0, .int .i64 0, .int .i64 0, .int .i64 0, .slice none 0 0, .int .i64 0, .int .i64 0, .int .i64 0, .int .i64 0, .int .i64 0, .int .i64 0, .int .i64 0, .int .i64 0, .int .i64 0, .int .i64 0, .int .i64 0, .int .i64 0, .int .i64 0, .int .i64 0, .int .i64 0, .int .i64 0, .int .i64 0, .int .i64 0, .int .i64 0, .int .i64 0, .int .i64 0, .int .i64 0, .int .i64 0, .int .i64 0], kind := .struct [(0, 25), (5, 26), (6, 81)] }
  | 84 => some { size := 1, bytes := 8, zero := [.nilFunc], kind := .cell }
  | 86 => some { size := 1, bytes := 8, zero := [.nilFunc], kind := .cell }
  | 87 => some { size := 1, bytes := 8, zero := [.nilFunc], kind := .cell }
  | 88 => some { size := 1, bytes := 8, zero := [.nilFunc], kind := .cell }
  | 89 => some { size := 1, bytes := 8, zero := [.nilFunc], kind := .cell }
  | 90 => some { size := 1, bytes := 8, zero := [.nilFunc], kind := .cell }
  | 91 => some { size := 1, bytes := 8, zero := [.nilFunc], kind := .cell }
  | 92 => some { size := 1, bytes := 8, zero := [.nilFunc], kind := .cell }
  | 93 => some { size := 1, bytes := 8, zero := [.nilFunc], kind := .cell }
  | 94 => some { size := 1, bytes := 8, zero := [.nilFunc], kind := .cell }
  | 95 => some { size := 1, bytes := 8, zero := [.nilFunc], kind := .cell }
  | 96 => some { size := 1, bytes := 8, zero := [.nilFunc], kind := .cell }
  | 97 => some { size := 1, bytes := 8, zero := [.nilFunc], kind := .cell }
  | 98 => some { size := 1, bytes := 8, zero := [.nilFunc], kind := .cell }
  | 99 => some { size := 1, bytes := 8, zero := [.nilFunc], kind := .cell }
  | 100 => some { size := 1, bytes := 8, zero := [.nilFunc], kind := .cell }
  | 102 => some { size := 1, bytes := 8, zero := [.nilFunc], kind := .cell }
  | 103 => some { size := 1, bytes := 8, zero := [.nilFunc], kind := .cell }
  | 104 => some { size := 1, bytes := 8, zero := [.nilFunc], kind := .cell }
  | 105 => some { size := 1, bytes := 8, zero := [.nilFunc], kind := .cell }
  | 106 => some { size := 1, bytes := 8, zero := [.nilFunc], kind := .cell }
  | 107 => some { size := 1, bytes := 8, zero := [.nilFunc], kind := .cell }
  | 108 => some { size := 1, bytes := 8, zero := [.nilFunc], kind := .cell }
  | 109 => some { size := 1, bytes := 8, zero := [.nilFunc], kind := .cell }
  | 110 => some { size := 1, bytes := 8, zero := [.nilFunc], kind := .cell }
  | 111 => some { size := 1, bytes := 8, zero := [.nilFunc], kind := .cell }
  | 112 => some { size := 1, bytes := 8, zero := [.nilFunc], kind := .cell }
  | 113 => some { size := 1, bytes := 8, zero := [.nilFunc], kind := .cell }
  | 114 => some { size := 1, bytes := 8, zero := [.nilFunc], kind := .cell }
  | 115 => some { size := 1, bytes := 8, zero := [.map none], kind := .cell }
  | 116 => some { size := 1, bytes := 8, zero := [.nilFunc], kind := .cell }
  | 117 => some { size := 1, bytes := 8, zero := [.nilFunc], kind := .cell }
  | 118 => some { size := 1, bytes := 8, zero := [.nilFunc], kind := .cell }
  | 119 => some { size := 1, bytes := 8, zero := [.nilFunc], kind := .cell }
  | 120 => some { size := 1, bytes := 8, zero := [.nilFunc], kind := .cell }
  | 121 => some { size := 1, bytes := 8, zero := [.nilFunc], kind := .cell }
  | 122 => some { size := 1, bytes := 8, zero := [.nilFunc], kind := .cell }
  | 123 => some { size := 1, bytes := 8, zero := [.nilFunc], kind := .cell }
  | 124 => some { size := 12, bytes := 12, zero := [.bool false, .bool false, .bool false, .bool false, .bool false, .bool false, .bool false, .bool false, .bool false, .bool false, .bool false, .bool false], kind := .array 12 4 }
  | 125 => some { size := 1, bytes := 24, zero := [.slice none 0 0], kind := .slice 4 }
  | 126 => some { size := 1, bytes := 8, zero := [.nilFunc], kind := .cell }
  | 127 => some { size := 1, bytes := 8, zero := [.nilFunc], kind := .cell }
  | 133 => some { size := 1, bytes := 8, zero := [.nilFunc], kind := .cell }
  | 134 => some { size := 1, bytes := 1, zero := [.int .u8 0], kind := .int .u8 }
  | 135 => some { size := 1, bytes := 1, zero := [.int .u8 0], kind := .int .u8 }
  | 136 => some { size := 1, bytes := 8, zero := [.nilFunc], kind := .cell }
  | 137 => some { size := 1, bytes := 8, zero := [.pointer none], kind := .cell }
  | 138 => some { size := 1, bytes := 4, zero := [.int .i32 0], kind := .int .i32 }
  | 139 => some { size := 1, bytes := 4, zero := [.int .i32 0], kind := .int .i32 }
  | 140 => some { size := 11, bytes := 48, zero := [.int .u64 0, .int .u64 0, .int .u32 0, .int .u8 0, .int .u8 0, .int .u8 0, .int .u8 0, .nilFunc, .pointer none, .int .i32 0, .int .i32 0], kind := .struct [(0, 12), (1, 12), (2, 54), (3, 134), (4, 5), (5, 5), (6, 135), (7, 136), (8, 137), (9, 138), (10, 139)] }
  | 141 => some { size := 11, bytes := 48, zero := [.int .u64 0, .int .u64 0, .int .u32 0, .int .u8 0, .int .u8 0, .int .u8 0, .int .u8 0, .nilFunc, .pointer none, .int .i32 0, .int .i32 0], kind := .struct [(0, 12), (1, 12), (2, 54), (3, 134), (4, 5), (5, 5), (6, 135), (7, 136), (8, 137), (9, 138), (10, 139)] }
  | _ => none
@[simp] theorem TB1 : TB 1 = some { size := 1, bytes := 8, zero := [.nilFunc], kind := .cell } := rfl
@[simp] theorem TB2 : TB 2 = some { size := 1, bytes := 8, zero := [.int .i64 0], kind := .int .i64 } := rfl
@[simp] theorem TB3 : TB 3 = some { size := 1, bytes := 8, zero := [.int .i64 0], kind := .int .i64 } := rfl
@[simp] theorem TB4 : TB 4 = some { size := 1, bytes := 1, zero := [.bool false], kind := .bool } := rfl
@[simp] theorem TB5 : TB 5 = some { size := 1, bytes := 1, zero := [.int .u8 0], kind := .int .u8 } := rfl
@[simp] theorem TB6 : TB 6 = some { size := 1, bytes := 1, zero := [.int .u8 0], kind := .int .u8 } := rfl
@[simp] theorem TB7 : TB 7 = some { size := 4, bytes := 24, zero := [.int .i64 0, .int .i64 0, .bool false, .int .u8 0], kind := .struct [(0, 2), (1, 3), (2, 4), (3, 6)] } := rfl
@[simp] theorem TB8 : TB 8 = some { size := 4, bytes := 24, zero := [.int .i64 0, .int .i64 0, .bool false, .int .u8 0], kind := .struct [(0, 2), (1, 3), (2, 4), (3, 6)] } := rfl
@[simp] theorem TB12 : TB 12 = some { size := 1, bytes := 8, zero := [.int .u64 0], kind := .int .u64 } := rfl
@[simp] theorem TB15 : TB 15 = some { size := 1, bytes := 8, zero := [.pointer none], kind := .cell } := rfl
@[simp] theorem TB16 : TB 16 = some { size := 1, bytes := 8, zero := [.pointer none], kind := .cell } := rfl
@[simp] theorem TB17 : TB 17 = some { size := 1, bytes := 8, zero := [.pointer none], kind := .cell } := rfl
@[simp] theorem TB18 : TB 18 = some { size := 1, bytes := 8, zero := [.pointer none], kind := .struct [(0, 17)] } := rfl
@[simp] theorem TB19 : TB 19 = some { size := 1, bytes := 8, zero := [.pointer none], kind := .struct [(0, 17)] } := rfl
@[simp] theorem TB21 : TB 21 = some { size := 1, bytes := 4, zero := [.int .i32 0], kind := .int .i32 } := rfl
@[simp] theorem TB22 : TB 22 = some { size := 2, bytes := 16, zero := [.int .i64 0, .int .i64 0], kind := .struct [(0, 2), (1, 2)], eqk := [.i64, .i64] } := rfl
@[simp] theorem TB23 : TB 23 = some { size := 2, bytes := 16, zero := [.int .i64 0, .int .i64 0], kind := .struct [(0, 2), (1, 2)], eqk := [.i64, .i64] } := rfl
@[simp] theorem TB24 : TB 24 = some { size := 5, bytes := 40, zero := [.int .i64 0, .int .i64 0, .int .i64 0, .int .i64 0, .int .i64 0], kind := .struct [(0, 2), (1, 2), (2, 2), (3, 23)] } := rfl
@[simp] theorem TB25 : TB 25 = some { size := 5, bytes := 40, zero := [.int .i64 0, .int .i64 0, .int .i64 0, .int .i64 0, .int .i64 0], kind := .struct [(0, 2), (1, 2), (2, 2), (3, 23)] } := rfl
@[simp] theorem TB26 : TB 26 = some { size := 1, bytes := 24, zero := [.slice none 0 0], kind := .slice 2 } := rfl
@[simp] theorem TB27 : TB 27 = some { size := 1, bytes := 8, zero := [.nilFunc], kind := .cell } := rfl
@[simp] theorem TB28 : TB 28 = some { size := 1, bytes := 8, zero := [.nilFunc], kind := .cell } := rfl
@[simp] theorem TB29 : TB 29 = some { size := 1, bytes := 8, zero := [.int .i64 0], kind := .int .i64 } := rfl
@[simp] theorem TB31 : TB 31 = some { size := 1, bytes := 8, zero := [.nilFunc], kind := .cell } := rfl
@[simp] theorem TB33 : TB 33 = some { size := 1, bytes := 8, zero := [.nilFunc], kind := .cell } := rfl
@[simp] theorem TB34 : TB 34 = some { size := 1, bytes := 8, zero := [.nilFunc], kind := .cell } := rfl
@[simp] theorem TB35 : TB 35 = some { size := 1, bytes := 8, zero := [.nilFunc], kind := .cell } := rfl
@[simp] theorem TB36 : TB 36 = some { size := 1, bytes := 24, zero := [.slice none 0 0], kind := .slice 59 } := rfl
@[simp] theorem TB37 : TB 37 = some { size := 1, bytes := 8, zero := [.nilFunc], kind := .cell } := rfl
@[simp] theorem TB38 : TB 38 = some { size := 1, bytes := 8, zero := [.nilFunc], kind := .cell } := rfl
@[simp] theorem TB39 : TB 39 = some { size := 1, bytes := 8, zero := [.nilFunc], kind := .cell } := rfl
@[simp] theorem TB41 : TB 41 = some { size := 1, bytes := 8, zero := [.nilFunc], kind := .cell } := rfl
@[simp] theorem TB43 : TB 43 = some { size := 1, bytes := 8, zero := [.nilFunc], kind := .cell } := rfl
@[simp] theorem TB44 : TB 44 = some { size := 1, bytes := 8, zero := [.nilFunc], kind := .cell } := rfl
@[simp] theorem TB45 : TB 45 = some { size := 1, bytes := 8, zero := [.nilFunc], kind := .cell } := rfl
@[simp] theorem TB46 : TB 46 = some { size := 1, bytes := 8, zero := [.nilFunc], kind := .cell } := rfl
@[simp] theorem TB47 : TB 47 = some { size := 1, bytes := 8, zero := [.nilFunc], kind := .cell } := rfl
@[simp] theorem TB48 : TB 48 = some { size := 1, bytes := 8, zero := [.nilFunc], kind := .cell } := rfl
@[simp] theorem TB49 : TB 49 = some { size := 1, bytes := 24, zero := [.slice none 0 0], kind := .slice 3 } := rfl
@[simp] theorem TB51 : TB 51 = some { size := 1, bytes := 8, zero := [.nilFunc], kind := .cell } := rfl
@[simp] theorem TB52 : TB 52 = some { size := 1, bytes := 8, zero := [.nilFunc], kind := .cell } := rfl
@[simp] theorem TB53 : TB 53 = some { size := 1, bytes := 8, zero := [.nilFunc], kind := .cell } := rfl
@[simp] theorem TB54 : TB 54 = some { size := 1, bytes := 4, zero := [.int .u32 0], kind := .int .u32 } := rfl
@[simp] theorem TB55 : TB 55 = some { size := 1, bytes := 24, zero := [.slice none 0 0], kind := .slice 36 } := rfl
@[simp] theorem TB56 : TB 56 = some { size := 1, bytes := 8, zero := [.nilFunc], kind := .cell } := rfl
@[simp] theorem TB57 : TB 57 = some { size := 1, bytes := 8, zero := [.nilFunc], kind := .cell } := rfl
@[simp] theorem TB58 : TB 58 = some { size := 2, bytes := 16, zero := [.int .i64 0, .int .i64 0], kind := .struct [(0, 2), (1, 3)], eqk := [.i64, .i64] } := rfl
@[simp] theorem TB59 : TB 59 = some { size := 2, bytes := 16, zero := [.int .i64 0, .int .i64 0], kind := .struct [(0, 2), (1, 3)], eqk := [.i64, .i64] } := rfl
@[simp] theorem TB60 : TB 60 = some { size := 1, bytes := 8, zero := [.nilFunc], kind := .cell } := rfl
@[simp] theorem TB61 : TB 61 = some { size := 1, bytes := 8, zero := [.nilFunc], kind := .cell } := rfl
@[simp] theorem TB62 : TB 62 = some { size := 2, bytes := 8, zero := [.int .u32 0, .int .u32 0], kind := .array 2 54, eqk := [.u32, .u32] } := rfl
@[simp] theorem TB63 : TB 63 = some { size := 1, bytes := 2, zero := [.int .u16 0], kind := .int .u16 } := rfl
@[simp] theorem TB64 : TB 64 = some { size := 3, bytes := 6, zero := [.int .u16 0, .int .u16 0, .int .u16 0], kind := .array 3 63, eqk := [.u16, .u16, .u16] } := rfl
@[simp] theorem TB66 : TB 66 = some { size := 1, bytes := 8, zero := [.nilFunc], kind := .cell } := rfl
@[simp] theorem TB67 : TB 67 = some { size := 1, bytes := 8, zero := [.nilFunc], kind := .cell } := rfl
@[simp] theorem TB68 : TB 68 = some { size := 1, bytes := 24, zero := [.slice none 0 0], kind := .slice 25 } := rfl
@[simp] theorem TB69 : TB 69 = some { size := 1, bytes := 8, zero := [.nilFunc], kind := .cell } := rfl
@[simp] theorem TB70 : TB 70 = some { size := 1, bytes := 8, zero := [.nilFunc], kind := .cell } := rfl
@[simp] theorem TB71 : TB 71 = some { size := 1, bytes := 8, zero := [.nilFunc], kind := .cell } := rfl
@[simp] theorem TB72 : TB 72 = some { size := 1, bytes := 8, zero := [.nilFunc], kind := .cell } := rfl
@[simp] theorem TB73 : TB 73 = some { size := 1, bytes := 8, zero := [.nilFunc], kind := .cell } := rfl
@[simp] theorem TB74 : TB 74 = some { size := 1, bytes := 24, zero := [.slice none 0 0], kind := .slice 23 } := rfl
@[simp] theorem TB75 : TB 75 = some { size := 1, bytes := 8, zero := [.nilFunc], kind := .cell } := rfl
@[simp] theorem TB76 : TB 76 = some { size := 1, bytes := 8, zero := [.pointer none], kind := .cell } := rfl
@[simp] theorem TB78 : TB 78 = some { size := 1, bytes := 8, zero := [.nilFunc], kind := .cell } := rfl
@[simp] theorem TB79 : TB 79 = some { size := 1, bytes := 8, zero := [.nilFunc], kind := .cell } := rfl
@[simp] theorem TB80 : TB 80 = some { size := 24, bytes := 192, zero := [.int .i64 0, .int .i64 0, .int .i64 0, .int .i64 0, .int .i64 0, .int .i64 0, .int .i64 0, .int .i64 0, .int .i64 0, .int .i64 0, .int .i64 0, .int .i64 0, .int .i64 0, .int .i64 0, .int .i64 0, .int .i64 0, .int .i64 0, .int .i64 0, .int .i64 0, .int .i64 0, .int .i64 0, .int .i64 0, .int .i64 0, .int .i64 0], kind := .array 12 23 } := rfl
@[simp] theorem TB81 : TB 81 = some { size := 24, bytes := 192, zero := [.int .i64 0, .int .i64 0, .int .i64 0, .int .i64 0, .int .i64 0, .int .i64 0, .int .i64 0, .int .i64 0, .int .i64 0, .int .i64 0, .int .i64 0, .int .i64 0, .int .i64 0, .int .i64 0, .int .i64 0, .int .i64 0, .int .i64 0, .int .i64 0, .int .i64 0, .int .i64 0, .int .i64 0, .int .i64 0, .int .i64 0, .int .i64 0], kind := .array 12 23 } := rfl
@[simp] theorem TB82 : TB 82 = some { size := 30, bytes := 256, zero := [.int .i64 0, .int .i64 0, .int .i64 0, .int .i64 0, .int .i64 0, .slice none 0 0, .int .i64 0, .int .i64 0, .int .i64 0, .int .i64 0, .int .i64 0, .int .i64 0, .int .i64 0, .int .i64 0, .int .i64 0, .int .i64 0, .int .i64 0, .int .i64 0, .int .i64 0, .int .i64 0, .int .i64 0, .int .i64 0, .int .i64 0, .int .i64 0, .int .i64 0, .int .i64 0, .int .i64 0, .int .i64 0, .int .i64 0, .int .i64 0], kind := .struct [(0, 25), (5, 26), (6, 81)] } := rfl
@[simp] theorem TB83 : TB 83 = some { size := 30, bytes := 256, zero := [.int .i64 0, .int .i64 0, .int .i64 0, .int .i64 0, .int .i64 0, .slice none 0 0, .int .i64 0, .int .i64 0, .int .i64 0, .int .i64 0, .int .i64 0, .int .i64 0, .int .i64 0, .int .i64 0, .int .i64 0, .int .i64 0, .int .i64 0, .int .i64 0, .int .i64 0, .int .i64 0, .int .i64 0, .int .i64 0, .int .i64 0, .int .i64 0, .int .i64 0, .int .i64 0, .int .i64 0, .int .i64 0, .int .i64 0, .int .i64 0], kind := .struct [(0, 25), (5, 26), (6, 81)] } := rfl
@[simp] theorem TB84 : TB 84 = some { size := 1, bytes := 8, zero := [.nilFunc], kind := .cell } := rfl
@[simp] theorem TB86 : TB 86 = some { size := 1, bytes := 8, zero := [.nilFunc], kind := .cell } := rfl
@[simp] theorem TB87 : TB 87 = some { size := 1, bytes := 8, zero := [.nilFunc], kind := .cell } := rfl
@[simp] theorem TB88 : TB 88 = some { size := 1, bytes := 8, zero := [.nilFunc], kind := .cell } := rfl
@[simp] theorem TB89 : TB 89 = some { size := 1, bytes := 8, zero := [.nilFunc], kind := .cell } := rfl
@[simp] theorem TB90 : TB 90 = some { size := 1, bytes := 8, zero := [.nilFunc], kind := .cell } := rfl
@[simp] theorem TB91 : TB 91 = some { size := 1, bytes := 8, zero := [.nilFunc], kind := .cell } := rfl
@[simp] theorem TB92 : TB 92 = some { size := 1, bytes := 8, zero := [.nilFunc], kind := .cell } := rfl
@[simp] theorem TB93 : TB 93 = some { size := 1, bytes := 8, zero := [.nilFunc], kind := .cell } := rfl
@[simp] theorem TB94 : TB 94 = some { size := 1, bytes := 8, zero := [.nilFunc], kind := .cell } := rfl
@[simp] theorem TB95 : TB 95 = some { size := 1, bytes := 8, zero := [.nilFunc], kind := .cell } := rfl
@[simp] theorem TB96 : TB 96 = some { size := 1, bytes := 8, zero := [.nilFunc], kind := .cell } := rfl
@[simp] theorem TB97 : TB 97 = some { size := 1, bytes := 8, zero := [.nilFunc], kind := .cell } := rfl
@[simp] theorem TB98 : TB 98 = some { size := 1, bytes := 8, zero := [.nilFunc], kind := .cell } := rfl
@[simp] theorem TB99 : TB 99 = some { size := 1, bytes := 8, zero := [.nilFunc], kind := .cell } := rfl
@[simp] theorem TB100 : TB 100 = some { size := 1, bytes := 8, zero := [.nilFunc], kind := .cell } := rfl
@[simp] theorem TB102 : TB 102 = some { size := 1, bytes := 8, zero := [.nilFunc], kind := .cell } := rfl
@[simp] theorem TB103 : TB 103 = some { size := 1, bytes := 8, zero := [.nilFunc], kind := .cell } := rfl
@[simp] theorem TB104 : TB 104 = some { size := 1, bytes := 8, zero := [.nilFunc], kind := .cell } := rfl
@[simp] theorem TB105 : TB 105 = some { size := 1, bytes := 8, zero := [.nilFunc], kind := .cell } := rfl
@[simp] theorem TB106 : TB 106 = some { size := 1, bytes := 8, zero := [.nilFunc], kind := .cell } := rfl
@[simp] theorem TB107 : TB 107 = some { size := 1, bytes := 8, zero := [.nilFunc], kind := .cell } := rfl
@[simp] theorem TB108 : TB 108 = some { size := 1, bytes := 8, zero := [.nilFunc], kind := .cell } := rfl
@[simp] theorem TB109 : TB 109 = some { size := 1, bytes := 8, zero := [.nilFunc], kind := .cell } := rfl
@[simp] theorem TB110 : TB 110 = some { size := 1, bytes := 8, zero := [.nilFunc], kind := .cell } := rfl
@[simp] theorem TB111 : TB 111 = some { size := 1, bytes := 8, zero := [.nilFunc], kind := .cell } := rfl
@[simp] theorem TB112 : TB 112 = some { size := 1, bytes := 8, zero := [.nilFunc], kind := .cell } := rfl
@[simp] theorem TB113 : TB 113 = some { size := 1, bytes := 8, zero := [.nilFunc], kind := .cell } := rfl
@[simp] theorem TB114 : TB 114 = some { size := 1, bytes := 8, zero := [.nilFunc], kind := .cell } := rfl
@[simp] theorem TB115 : TB 115 = some { size := 1, bytes := 8, zero := [.map none], kind := .cell } := rfl
@[simp] theorem TB116 : TB 116 = some { size := 1, bytes := 8, zero := [.nilFunc], kind := .cell } := rfl
@[simp] theorem TB117 : TB 117 = some { size := 1, bytes := 8, zero := [.nilFunc], kind := .cell } := rfl
@[simp] theorem TB118 : TB 118 = some { size := 1, bytes := 8, zero := [.nilFunc], kind := .cell } := rfl
@[simp] theorem TB119 : TB 119 = some { size := 1, bytes := 8, zero := [.nilFunc], kind := .cell } := rfl
@[simp] theorem TB120 : TB 120 = some { size := 1, bytes := 8, zero := [.nilFunc], kind := .cell } := rfl
@[simp] theorem TB121 : TB 121 = some { size := 1, bytes := 8, zero := [.nilFunc], kind := .cell } := rfl
@[simp] theorem TB122 : TB 122 = some { size := 1, bytes := 8, zero := [.nilFunc], kind := .cell } := rfl
@[simp] theorem TB123 : TB 123 = some { size := 1, bytes := 8, zero := [.nilFunc], kind := .cell } := rfl
@[simp] theorem TB124 : TB 124 = some { size := 12, bytes := 12, zero := [.bool false, .bool false, .bool false, .bool false, .bool false, .bool false, .bool false, .bool false, .bool false, .bool false, .bool false, .bool false], kind := .array 12 4 } := rfl
@[simp] theorem TB125 : TB 125 = some { size := 1, bytes := 24, zero := [.slice none 0 0], kind := .slice 4 } := rfl
@[simp] theorem TB126 : TB 126 = some { size := 1, bytes := 8, zero := [.nilFunc], kind := .cell } := rfl
@[simp] theorem TB127 : TB 127 = some { size := 1, bytes := 8, zero := [.nilFunc], kind := .cell } := rfl
@[simp] theorem TB133 : TB 133 = some { size := 1, bytes := 8, zero := [.nilFunc], kind := .cell } := rfl
@[simp] theorem TB134 : TB 134 = some { size := 1, bytes := 1, zero := [.int .u8 0], kind := .int .u8 } := rfl
@[simp] theorem TB135 : TB 135 = some { size := 1, bytes := 1, zero := [.int .u8 0], kind := .int .u8 } := rfl
@[simp] theorem TB136 : TB 136 = some { size := 1, bytes := 8, zero := [.nilFunc], kind := .cell } := rfl
@[simp] theorem TB137 : TB 137 = some { size := 1, bytes := 8, zero := [.pointer none], kind := .cell } := rfl
@[simp] theorem TB138 : TB 138 = some { size := 1, bytes := 4, zero := [.int .i32 0], kind := .int .i32 } := rfl
@[simp] theorem TB139 : TB 139 = some { size := 1, bytes := 4, zero := [.int .i32 0], kind := .int .i32 } := rfl
@[simp] theorem TB140 : TB 140 = some { size := 11, bytes := 48, zero := [.int .u64 0, .int .u64 0, .int .u32 0, .int .u8 0, .int .u8 0, .int .u8 0, .int .u8 0, .nilFunc, .pointer none, .int .i32 0, .int .i32 0], kind := .struct [(0, 12), (1, 12), (2, 54), (3, 134), (4, 5), (5, 5), (6, 135), (7, 136), (8, 137), (9, 138), (10, 139)] } := rfl
@[simp] theorem TB141 : TB 141 = some { size := 11, bytes := 48, zero := [.int .u64 0, .int .u64 0, .int .u32 0, .int .u8 0, .int .u8 0, .int .u8 0, .int .u8 0, .nilFunc, .pointer none, .int .i32 0, .int .i32 0], kind := .struct [(0, 12), (1, 12), (2, 54), (3, 134), (4, 5), (5, 5), (6, 135), (7, 136), (8, 137), (9, 138), (10, 139)] } := rfl
set_option maxRecDepth 20000 in
set_option maxHeartbeats 4000000 in
theorem tabOk : TabOk Try.prog TB := by
  intro t i h
  unfold TB at h
  split at h <;> first
    | (cases h; exact ti1)
    | (cases h; exact ti2)
    | (cases h; exact ti3)
    | (cases h; exact ti4)
    | (cases h; exact ti5)
    | (cases h; exact ti6)
    | (cases h; exact ti7)
    | (cases h; exact ti8)
    | (cases h; exact ti12)
    | (cases h; exact ti15)
    | (cases h; exact ti16)
    | (cases h; exact ti17)
    | (cases h; exact ti18)
    | (cases h; exact ti19)
    | (cases h; exact ti21)
    | (cases h; exact ti22)
    | (cases h; exact ti23)
    | (cases h; exact ti24)
    | (cases h; exact ti25)
    | (cases h; exact ti26)
    | (cases h; exact ti27)
    | (cases h; exact ti28)
    | (cases h; exact ti29)
    | (cases h; exact ti31)
    | (cases h; exact ti33)
    | (cases h; exact ti34)
    | (cases h; exact ti35)
    | (cases h; exact ti36)
    | (cases h; exact ti37)
    | (cases h; exact ti38)
    | (cases h; exact ti39)
    | (cases h; exact ti41)
    | (cases h; exact ti43)
    | (cases h; exact ti44)
    | (cases h; exact ti45)
    | (cases h; exact ti46)
    | (cases h; exact ti47)
    | (cases h; exact ti48)
    | (cases h; exact ti49)
    | (cases h; exact ti51)
    | (cases h; exact ti52)
    | (cases h; exact ti53)
    | (cases h; exact ti54)
    | (cases h; exact ti55)
    | (cases h; exact ti56)
    | (cases h; exact ti57)
    | (cases h; exact ti58)
    | (cases h; exact ti59)
    | (cases h; exact ti60)
    | (cases h; exact ti61)
    | (cases h; exact ti62)
    | (cases h; exact ti63)
    | (cases h; exact ti64)
    | (cases h; exact ti66)
    | (cases h; exact ti67)
    | (cases h; exact ti68)
    | (cases h; exact ti69)
    | (cases h; exact ti70)
    | (cases h; exact ti71)
    | (cases h; exact ti72)
    | (cases h; exact ti73)
    | (cases h; exact ti74)
    | (cases h; exact ti75)
    | (cases h; exact ti76)
    | (cases h; exact ti78)
    | (cases h; exact ti79)
    | (cases h; exact ti80)
    | (cases h; exact ti81)
    | (cases h; exact ti82)
    | (cases h; exact ti83)
    | (cases h; exact ti84)
    | (cases h; exact ti86)
    | (cases h; exact ti87)
    | (cases h; exact ti88)
    | (cases h; exact ti89)
    | (cases h; exact ti90)
    | (cases h; exact ti91)
    | (cases h; exact ti92)
    | (cases h; exact ti93)
    | (cases h; exact ti94)
    | (cases h; exact ti95)
    | (cases h; exact ti96)
    | (cases h; exact ti97)
    | (cases h; exact ti98)
    | (cases h; exact ti99)
    | (cases h; exact ti100)
    | (cases h; exact ti102)
    | (cases h; exact ti103)
    | (cases h; exact ti104)
    | (cases h; exact ti105)
    | (cases h; exact ti106)
    | (cases h; exact ti107)
    | (cases h; exact ti108)
    | (cases h; exact ti109)
    | (cases h; exact ti110)
    | (cases h; exact ti111)
    | (cases h; exact ti112)
    | (cases h; exact ti113)
    | (cases h; exact ti114)
    | (cases h; exact ti115)
    | (cases h; exact ti116)
    | (cases h; exact ti117)
    | (cases h; exact ti118)
    | (cases h; exact ti119)
    | (cases h; exact ti120)
    | (cases h; exact ti121)
    | (cases h; exact ti122)
    | (cases h; exact ti123)
    | (cases h; exact ti124)
    | (cases h; exact ti125)
    | (cases h; exact ti126)
    | (cases h; exact ti127)
    | (cases h; exact ti133)
    | (cases h; exact ti134)
    | (cases h; exact ti135)
    | (cases h; exact ti136)
    | (cases h; exact ti137)
    | (cases h; exact ti138)
    | (cases h; exact ti139)
    | (cases h; exact ti140)
    | (cases h; exact ti141)
    | cases h
end Go.Proofs.Ytdkneonokbakjaa.Eng

namespace Go.Proofs.Ytdkneonokbakjaa.Eng
open Go.RowKit
theorem zq0 : Try.prog.follows .mixedOrders = true := by kernel_rfl
section
variable {P : Program} {tp : Bool} {ns : Nat}
theorem zq1 {x y : Code} {n : Nat} {s : St} {Q : Post} (h : ∀ k : KK P tp ns y Q, AWp P tp ns x n s (thenP k.K Q)) : AWp P tp ns (.seq x y) n s Q := AWp.seqK h
theorem zq2 {id n : Nat} {c : Code} {s : St} {Q : Post} (h : ∀ b : BB id Q, AWp P tp ns c n s b.B) : AWp P tp ns (.block id c) n s Q := AWp.blockK h
theorem zq3 {y : Code} {Q : Post} {k : KK P tp ns y Q} {n : Nat} {s : St} (h : AWp P tp ns y n s Q) : k.K n s := KK.go h
theorem zq5 {c : Operand} {x y : Code} {n : Nat} {s : St} {Q : Post} (h : ∀ (kx : KK P tp ns x Q) (ky : KK P tp ns y Q), CondG (opd ns s c) (kx.K n s) (ky.K n s)) : AWp P tp ns (.cond c x y) n s Q := AWp.condK h
theorem zq7 {id : Nat} {Q : Post} {b : BB id Q} {e : Exit} {n : Nat} {s : St} (h : blockP id Q e n s) : b.B e n s := BB.go h
end
theorem zq4 {tp : Bool} {ns id n : Nat} {l : List Oper} {s : St} {Q : Post} (h : Exec0 Try.prog tp TB l.toArray ns n l s (fun s' => Q .normal (n + l.length) s')) : AWp Try.prog tp ns (.region id l.toArray false) n s Q := AWp.reg tabOk h
theorem zq6 {tp : Bool} {ns id n : Nat} {l : List Oper} {s : St} {Q : Post} (h : Exec Try.prog TB l.toArray ns n l s [] (fun s' log => okLog l log = true ∧ Q .normal (n + l.length) s')) (hB : backB l.toArray = true := by kernel_rfl) : AWp Try.prog tp ns (.region id l.toArray true) n s Q := AWp.draws tabOk zq0 hB h
theorem zq8 {l : List Oper} {log : List Foot} {q : Prop} (h : q) (hl : okLog l log = true := by kernel_rfl) : okLog l log = true ∧ q := ⟨hl, h⟩
end Go.Proofs.Ytdkneonokbakjaa.Eng

noncomputable section
namespace Go.Proofs.Ytdkneonokbakjaa.Eng
open Go.RowKit
set_option maxRecDepth 100000
set_option maxHeartbeats 8000000
abbrev stoD (s : RS) : Dat := .agg [iD s.long, iD s.short, iD s.off, iD s.lo, iD s.hi]
abbrev rngD (r : Int × Int) : Dat := .agg [iD r.1, iD r.2]
abbrev runRow (r : Int × Int) : List Dat := [iD r.1, iD r.2]
def runRows (l : List (Int × Int)) : List (List Dat) := l.map runRow
@[simp] theorem runRows_len (l : List (Int × Int)) : (runRows l).length = l.length := List.length_map _
@[simp] theorem runRows_get (l : List (Int × Int)) (i : Nat) : (runRows l)[i]? = (l[i]?).map runRow := List.getElem?_map
abbrev runsD (l : List (Int × Int)) : Dat := .list (runRows l)
theorem fromZn_not {lo hi : Int} {l : List Int} {k : Nat} {x : Int} (hx : l[k]? = some x) (h : x < lo ∨ hi < x) : fromZn lo hi l = false := by
  rw [fromZn, List.all_eq_false]
  exact ⟨x, List.mem_of_getElem? hx, by simp [inZn]; omega⟩
theorem fromZn_take {lo hi : Int} {l : List Int} {k : Nat} {x : Int} (hx : l[k]? = some x) (h : fromZn lo hi (l.take k) = true) (h1 : lo ≤ x) (h2 : x ≤ hi) : fromZn lo hi (l.take (k + 1)) = true := by
  obtain ⟨hk, rfl⟩ := List.getElem?_eq_some_iff.1 hx
  rw [fromZn] at h ⊢
  rw [List.take_succ_eq_append_getElem hk, List.all_append, h]
  simp [inZn]
  omega
theorem refCheckStone_c (s : RS) (ps : List Int) (hl : ps.length ≤ 1000000) : ACall Try.prog 23 [stoD s, intL ps] (iD (stoE s ps)) := by
  obtain ⟨e, he⟩ : ∃ e, e = stoE s ps := ⟨_, rfl⟩
  rw [← he]
  by_cases b1 : ps.length < 1
  · have he' : e = 6 := by rw [he, stoE, if_pos (.inl b1)]
    have b1i : (ps.length : Int) < 1 := by omega
    have b0 : ps = [] := List.length_eq_zero_iff.1 (by omega)
    subst b0
    refine acallK tabOk Try.func23 rfl rfl (show 2 ≤ _ by decide) rfl fun _ => ?_; simp only [Try.ntmps23]
    repeat (first | (with_reducible first | refine zq1 fun _ => ?_ | refine zq2 fun _ => ?_ | refine zq3 ?_) | ((first | refine zq4 ?_ | refine zq5 fun _ _ => ?_ | refine zq6 ?_); simp [-getElem?_pos, z0, z1, z2, z0]) | ((first | refine AWp.ret ?_ | refine AWp.skip ?_ | refine AWp.exit ?_); try simp only [thenP]) | (with_reducible refine zq7 ?_; simp only [blockP, thenP, reduceIte]) | with_reducible refine zq8 ?_)
    (first | refine RR.ret ?_ | refine RR.normal ?_); simp [he']
  have b1i : ¬ (ps.length : Int) < 1 := by omega
  have b0 : ¬ ps = [] := fun h => by subst h; simp at b1
  by_cases b2 : 12 < ps.length
  · have he' : e = 6 := by rw [he, stoE, if_pos (.inr b2)]
    have b2i : (12 : Int) < ps.length := by omega
    refine acallK tabOk Try.func23 rfl rfl (show 2 ≤ _ by decide) rfl fun _ => ?_; simp only [Try.ntmps23]
    repeat (first | (with_reducible first | refine zq1 fun _ => ?_ | refine zq2 fun _ => ?_ | refine zq3 ?_) | ((first | refine zq4 ?_ | refine zq5 fun _ _ => ?_ | refine zq6 ?_); simp [-getElem?_pos, z0, z1, z2, b0, b1, b1i, b2, b2i]) | ((first | refine AWp.ret ?_ | refine AWp.skip ?_ | refine AWp.exit ?_); try simp only [thenP]) | (with_reducible refine zq7 ?_; simp only [blockP, thenP, reduceIte]) | with_reducible refine zq8 ?_)
    (first | refine RR.ret ?_ | refine RR.normal ?_); simp [he']
  have b2i : ¬ (12 : Int) < ps.length := by omega
  have hbad : ¬ GoodR s → e = 2 := fun h => by
    rw [he, stoE, if_neg (by omega), if_neg (fun h2 => h (okR_iff.1 h2))]
  by_cases a1 : s.short < 1
  · have he' := hbad fun h => by have := h.s1; have := h.s2; have := h.s3; have := h.o1; have := h.o2; have := h.l1; have := h.l2; have := h.l3; omega
    refine acallK tabOk Try.func23 rfl rfl (show 2 ≤ _ by decide) rfl fun _ => ?_; simp only [Try.ntmps23]
    repeat (first | (with_reducible first | refine zq1 fun _ => ?_ | refine zq2 fun _ => ?_ | refine zq3 ?_) | ((first | refine zq4 ?_ | refine zq5 fun _ _ => ?_ | refine zq6 ?_); simp [-getElem?_pos, z0, z1, z2, b0, b1, b1i, b2, b2i, a1]) | ((first | refine AWp.ret ?_ | refine AWp.skip ?_ | refine AWp.exit ?_); try simp only [thenP]) | (with_reducible refine zq7 ?_; simp only [blockP, thenP, reduceIte]) | with_reducible refine zq8 ?_)
    (first | refine RR.ret ?_ | refine RR.normal ?_); simp [he']
  by_cases a2 : s.long < s.short
  · have he' := hbad fun h => by have := h.s1; have := h.s2; have := h.s3; have := h.o1; have := h.o2; have := h.l1; have := h.l2; have := h.l3; omega
    refine acallK tabOk Try.func23 rfl rfl (show 2 ≤ _ by decide) rfl fun _ => ?_; simp only [Try.ntmps23]
    repeat (first | (with_reducible first | refine zq1 fun _ => ?_ | refine zq2 fun _ => ?_ | refine zq3 ?_) | ((first | refine zq4 ?_ | refine zq5 fun _ _ => ?_ | refine zq6 ?_); simp [-getElem?_pos, z0, z1, z2, b0, b1, b1i, b2, b2i, a1, a2]) | ((first | refine AWp.ret ?_ | refine AWp.skip ?_ | refine AWp.exit ?_); try simp only [thenP]) | (with_reducible refine zq7 ?_; simp only [blockP, thenP, reduceIte]) | with_reducible refine zq8 ?_)
    (first | refine RR.ret ?_ | refine RR.normal ?_); simp [he']
  by_cases a3 : (100000 : Int) < s.long
  · have he' := hbad fun h => by have := h.s1; have := h.s2; have := h.s3; have := h.o1; have := h.o2; have := h.l1; have := h.l2; have := h.l3; omega
    refine acallK tabOk Try.func23 rfl rfl (show 2 ≤ _ by decide) rfl fun _ => ?_; simp only [Try.ntmps23]
    repeat (first | (with_reducible first | refine zq1 fun _ => ?_ | refine zq2 fun _ => ?_ | refine zq3 ?_) | ((first | refine zq4 ?_ | refine zq5 fun _ _ => ?_ | refine zq6 ?_); simp [-getElem?_pos, z0, z1, z2, b0, b1, b1i, b2, b2i, a1, a2, a3]) | ((first | refine AWp.ret ?_ | refine AWp.skip ?_ | refine AWp.exit ?_); try simp only [thenP]) | (with_reducible refine zq7 ?_; simp only [blockP, thenP, reduceIte]) | with_reducible refine zq8 ?_)
    (first | refine RR.ret ?_ | refine RR.normal ?_); simp [he']
  by_cases a4 : s.off < 0
  · have he' := hbad fun h => by have := h.s1; have := h.s2; have := h.s3; have := h.o1; have := h.o2; have := h.l1; have := h.l2; have := h.l3; omega
    refine acallK tabOk Try.func23 rfl rfl (show 2 ≤ _ by decide) rfl fun _ => ?_; simp only [Try.ntmps23]
    repeat (first | (with_reducible first | refine zq1 fun _ => ?_ | refine zq2 fun _ => ?_ | refine zq3 ?_) | ((first | refine zq4 ?_ | refine zq5 fun _ _ => ?_ | refine zq6 ?_); simp [-getElem?_pos, z0, z1, z2, b0, b1, b1i, b2, b2i, a1, a2, a3, a4]) | ((first | refine AWp.ret ?_ | refine AWp.skip ?_ | refine AWp.exit ?_); try simp only [thenP]) | (with_reducible refine zq7 ?_; simp only [blockP, thenP, reduceIte]) | with_reducible refine zq8 ?_)
    (first | refine RR.ret ?_ | refine RR.normal ?_); simp [he']
  by_cases a5 : s.short ≤ s.off
  · have he' := hbad fun h => by have := h.s1; have := h.s2; have := h.s3; have := h.o1; have := h.o2; have := h.l1; have := h.l2; have := h.l3; omega
    refine acallK tabOk Try.func23 rfl rfl (show 2 ≤ _ by decide) rfl fun _ => ?_; simp only [Try.ntmps23]
    repeat (first | (with_reducible first | refine zq1 fun _ => ?_ | refine zq2 fun _ => ?_ | refine zq3 ?_) | ((first | refine zq4 ?_ | refine zq5 fun _ _ => ?_ | refine zq6 ?_); simp [-getElem?_pos, z0, z1, z2, b0, b1, b1i, b2, b2i, a1, a2, a3, a4, a5]) | ((first | refine AWp.ret ?_ | refine AWp.skip ?_ | refine AWp.exit ?_); try simp only [thenP]) | (with_reducible refine zq7 ?_; simp only [blockP, thenP, reduceIte]) | with_reducible refine zq8 ?_)
    (first | refine RR.ret ?_ | refine RR.normal ?_); simp [he']
  by_cases a6 : s.lo < 0
  · have he' := hbad fun h => by have := h.s1; have := h.s2; have := h.s3; have := h.o1; have := h.o2; have := h.l1; have := h.l2; have := h.l3; omega
    refine acallK tabOk Try.func23 rfl rfl (show 2 ≤ _ by decide) rfl fun _ => ?_; simp only [Try.ntmps23]
    repeat (first | (with_reducible first | refine zq1 fun _ => ?_ | refine zq2 fun _ => ?_ | refine zq3 ?_) | ((first | refine zq4 ?_ | refine zq5 fun _ _ => ?_ | refine zq6 ?_); simp [-getElem?_pos, z0, z1, z2, b0, b1, b1i, b2, b2i, a1, a2, a3, a4, a5, a6]) | ((first | refine AWp.ret ?_ | refine AWp.skip ?_ | refine AWp.exit ?_); try simp only [thenP]) | (with_reducible refine zq7 ?_; simp only [blockP, thenP, reduceIte]) | with_reducible refine zq8 ?_)
    (first | refine RR.ret ?_ | refine RR.normal ?_); simp [he']
  by_cases a7 : s.hi < s.lo
  · have he' := hbad fun h => by have := h.s1; have := h.s2; have := h.s3; have := h.o1; have := h.o2; have := h.l1; have := h.l2; have := h.l3; omega
    refine acallK tabOk Try.func23 rfl rfl (show 2 ≤ _ by decide) rfl fun _ => ?_; simp only [Try.ntmps23]
    repeat (first | (with_reducible first | refine zq1 fun _ => ?_ | refine zq2 fun _ => ?_ | refine zq3 ?_) | ((first | refine zq4 ?_ | refine zq5 fun _ _ => ?_ | refine zq6 ?_); simp [-getElem?_pos, z0, z1, z2, b0, b1, b1i, b2, b2i, a1, a2, a3, a4, a5, a6, a7]) | ((first | refine AWp.ret ?_ | refine AWp.skip ?_ | refine AWp.exit ?_); try simp only [thenP]) | (with_reducible refine zq7 ?_; simp only [blockP, thenP, reduceIte]) | with_reducible refine zq8 ?_)
    (first | refine RR.ret ?_ | refine RR.normal ?_); simp [he']
  by_cases a8 : (1000000000 : Int) < s.hi
  · have he' := hbad fun h => by have := h.s1; have := h.s2; have := h.s3; have := h.o1; have := h.o2; have := h.l1; have := h.l2; have := h.l3; omega
    refine acallK tabOk Try.func23 rfl rfl (show 2 ≤ _ by decide) rfl fun _ => ?_; simp only [Try.ntmps23]
    repeat (first | (with_reducible first | refine zq1 fun _ => ?_ | refine zq2 fun _ => ?_ | refine zq3 ?_) | ((first | refine zq4 ?_ | refine zq5 fun _ _ => ?_ | refine zq6 ?_); simp [-getElem?_pos, z0, z1, z2, b0, b1, b1i, b2, b2i, a1, a2, a3, a4, a5, a6, a7, a8]) | ((first | refine AWp.ret ?_ | refine AWp.skip ?_ | refine AWp.exit ?_); try simp only [thenP]) | (with_reducible refine zq7 ?_; simp only [blockP, thenP, reduceIte]) | with_reducible refine zq8 ?_)
    (first | refine RR.ret ?_ | refine RR.normal ?_); simp [he']
  have hg : GoodR s := ⟨by omega, by omega, by omega, by omega, by omega, by omega, by omega, by omega⟩
  have hok : e = if fromZn 1 10000 ps then 0 else 3 := by rw [he, stoE, if_neg (by omega), if_pos (okR_iff.2 hg)]
  refine acallK tabOk Try.func23 rfl rfl (show 2 ≤ _ by decide) rfl fun _ => ?_; simp only [Try.ntmps23]
  repeat (first | (with_reducible first | refine zq1 fun _ => ?_ | refine zq2 fun _ => ?_ | refine zq3 ?_) | ((first | refine zq4 ?_ | refine zq5 fun _ _ => ?_ | refine zq6 ?_); simp [-getElem?_pos, z0, z1, z2, b0, b1, b1i, b2, b2i, a1, a2, a3, a4, a5, a6, a7, a8]) | ((first | refine AWp.ret ?_ | refine AWp.skip ?_ | refine AWp.exit ?_); try simp only [thenP]) | (with_reducible refine zq7 ?_; simp only [blockP, thenP, reduceIte]) | with_reducible refine zq8 ?_)
  refine AWp.loopK (ι := { k : Nat // k ≤ ps.length ∧ fromZn 1 10000 (ps.take k) = true }) (n := 0) (fun k => [(1, .d (intL ps)), (5, .d (iD k.1))]) (fun _ => []) (fun k => ps.length - k.1) ⟨0, Nat.zero_le _, rfl⟩ [] ?_ ?_
  · refine ⟨by rfl, by simp [], by simp [or_imp, forall_and, ] <;> (try (intro _hne; simp [_hne])), by decide⟩
  rintro ⟨k, hk, hall⟩ kk
  have w1 : IntKind.i64.wrap ((k : Int) + 1) = (k : Int) + 1 := wrap64_in (by omega)
  by_cases hlt : k < ps.length
  · have hii : (k : Int) < ps.length := by omega
    obtain ⟨x, hx⟩ : ∃ x, ps[k]? = some x := ⟨_, List.getElem?_eq_getElem hlt⟩
    by_cases c1 : x < 1
    · have he' : e = 3 := by rw [hok, fromZn_not hx (.inl c1)]; rfl
      repeat (first | (with_reducible first | refine zq1 fun _ => ?_ | refine zq2 fun _ => ?_ | refine zq3 ?_) | ((first | refine zq4 ?_ | refine zq5 fun _ _ => ?_ | refine zq6 ?_); simp [-getElem?_pos, z0, z1, z2, hlt, hii, hx, c1]) | ((first | refine AWp.ret ?_ | refine AWp.skip ?_ | refine AWp.exit ?_); try simp only [thenP]) | (with_reducible refine zq7 ?_; simp only [blockP, thenP, reduceIte]) | with_reducible refine zq8 ?_)
      (first | refine RR.ret ?_ | refine RR.normal ?_); simp [he']
    by_cases c2 : (10000 : Int) < x
    · have he' : e = 3 := by rw [hok, fromZn_not hx (.inr c2)]; rfl
      repeat (first | (with_reducible first | refine zq1 fun _ => ?_ | refine zq2 fun _ => ?_ | refine zq3 ?_) | ((first | refine zq4 ?_ | refine zq5 fun _ _ => ?_ | refine zq6 ?_); simp [-getElem?_pos, z0, z1, z2, hlt, hii, hx, c1, c2]) | ((first | refine AWp.ret ?_ | refine AWp.skip ?_ | refine AWp.exit ?_); try simp only [thenP]) | (with_reducible refine zq7 ?_; simp only [blockP, thenP, reduceIte]) | with_reducible refine zq8 ?_)
      (first | refine RR.ret ?_ | refine RR.normal ?_); simp [he']
    repeat (first | (with_reducible first | refine zq1 fun _ => ?_ | refine zq2 fun _ => ?_ | refine zq3 ?_) | ((first | refine zq4 ?_ | refine zq5 fun _ _ => ?_ | refine zq6 ?_); simp [-getElem?_pos, z0, z1, z2, hlt, hii, hx, c1, c2, w1]) | ((first | refine AWp.ret ?_ | refine AWp.skip ?_ | refine AWp.exit ?_); try simp only [thenP]) | (with_reducible refine zq7 ?_; simp only [blockP, thenP, reduceIte]) | with_reducible refine zq8 ?_)
    refine LL.go ⟨k + 1, hlt, fromZn_take hx hall (by omega) (by omega)⟩ [] ⟨by rfl, by simp [], by simp [or_imp, forall_and, ] <;> (try (intro _hne; simp [_hne])), by decide⟩ ?_
    simp; omega
  · obtain rfl : k = ps.length := by omega
    rw [List.take_length] at hall
    have he' : e = 0 := by rw [hok, hall]; rfl
    repeat (first | (with_reducible first | refine zq1 fun _ => ?_ | refine zq2 fun _ => ?_ | refine zq3 ?_) | ((first | refine zq4 ?_ | refine zq5 fun _ _ => ?_ | refine zq6 ?_); simp [-getElem?_pos, z0, z1, z2, hlt]) | ((first | refine AWp.ret ?_ | refine AWp.skip ?_ | refine AWp.exit ?_); try simp only [thenP]) | (with_reducible refine zq7 ?_; simp only [blockP, thenP, reduceIte]) | with_reducible refine zq8 ?_)
    (first | refine RR.ret ?_ | refine RR.normal ?_); simp [he']
end Go.Proofs.Ytdkneonokbakjaa.Eng

noncomputable section
namespace Go.Proofs.Ytdkneonokbakjaa.Eng
open Go.RowKit
set_option maxRecDepth 100000
set_option maxHeartbeats 8000000
def allE (s : RS) (ps : List Int) (p : Int) : Int := if stoE s ps = 0 then (if p < 0 ∨ (ps.length : Int) ≤ p then 3 else if (betA s ps p.toNat).2 < (betA s ps p.toNat).1 then 5 else 0) else stoE s ps
def allV (s : RS) (ps : List Int) (p : Int) : Int × Int := if allE s ps p = 0 then betA s ps p.toNat else (0, 0)
theorem betA_at {s : RS} {ps : List Int} {k : Nat} {t : Int} (h : ps[k]? = some t) : betA s ps k = betR s t := by rw [betA, h]
def gapI (s : RS) (ps : List Int) : Int := match gapR (betA s ps) ps.length s.long s.short with
  | some y => y
  | none => -1
def gapE (s : RS) (ps : List Int) : Int := if stoE s ps = 0 then (if gapI s ps < 0 then 5 else 0) else stoE s ps
def gapV (s : RS) (ps : List Int) : Int := if gapE s ps = 0 then gapI s ps else 0
end Go.Proofs.Ytdkneonokbakjaa.Eng

noncomputable section
namespace Go.Proofs.Ytdkneonokbakjaa.Eng
open Go.RowKit
set_option maxRecDepth 100000
set_option maxHeartbeats 8000000
def runsZ (l : List (Int × Nat)) : List (Int × Int) := l.map fun r => (r.1, (r.2 : Int))
@[simp] theorem runsZ_len (l : List (Int × Nat)) : (runsZ l).length = l.length := List.length_map _
def planL (A : Rgs) (n : Nat) (x down : Int) : List (Int × Int) := match gapR A n x down with
  | none => runsZ (runsR A n x down)
  | some _ => []
def wholeB (A : Rgs) (n : Nat) (x down : Int) : Bool := (gapR A n x down).isNone
def planE (s : RS) (ps : List Int) : Int := if stoE s ps = 0 then (if wholeB (betA s ps) ps.length s.long s.short then 0 else 19) else stoE s ps
def planO (s : RS) (ps : List Int) : List (Int × Int) := if stoE s ps = 0 then planL (betA s ps) ps.length s.long s.short else []
theorem planL_no {A : Rgs} {n : Nat} {x down : Int} (h : wholeB A n x down = false) : planL A n x down = [] := by
  unfold wholeB at h
  unfold planL
  cases hg : gapR A n x down with
  | none => rw [hg] at h; cases h
  | some y => rfl
theorem runs_short {A : Rgs} {n : Nat} {down : Int} (x : Int) : ((runsR A n x down).length : Int) ≤ max 0 (x + 1 - down) := by
  refine runs_ind (A := A) (n := n) (down := down) (C := fun x => ((runsR A n x down).length : Int) ≤ max 0 (x + 1 - down)) ?_ ?_ ?_ x
  · intro x h
    rw [runs_stop h]
    simp; omega
  · intro x h hp
    rw [runs_gap hp]
    simp; omega
  · intro x k h hp ih
    rw [runs_step h hp]
    have := (pick_some hp).at1
    simp only [List.length_cons]
    omega
theorem planL_short {A : Rgs} {n : Nat} {x down : Int} (hx : x ≤ 100000) (hd : 1 ≤ down) : (planL A n x down).length ≤ 100000 := by
  unfold planL
  split
  · have := runs_short (A := A) (n := n) (down := down) x
    simp
    omega
  · simp
theorem planO_short (s : RS) (ps : List Int) : (planO s ps).length ≤ 100000 := by
  unfold planO
  split
  · rename_i h0
    have ok := (stoE_ok.1 h0).g
    exact planL_short ok.s3 ok.s1
  · simp
theorem planO_no {s : RS} {ps : List Int} (h : planE s ps ≠ 0) : planO s ps = [] := by
  unfold planE at h
  unfold planO
  split
  · rename_i h0
    rw [if_pos h0] at h
    cases hw : wholeB (betA s ps) ps.length s.long s.short with
    | true => rw [hw] at h; simp at h
    | false => exact planL_no hw
  · rfl
theorem grow_fst (L : List (Int × Int)) : ∃ T : Nat → List Int, T 0 = [] ∧ (∀ i, (T i).length ≤ i) ∧ (∀ i x p, L[i]? = some (x, p) → T (i + 1) = T i ++ [x]) ∧ T L.length = L.map (·.1) :=
  ⟨fun i => (L.take i).map (·.1), rfl, fun i => by rw [List.length_map, List.length_take]; omega, fun i x p h => by simp only; rw [List.take_add_one, h, List.map_append]; rfl, by simp only; rw [List.take_length]⟩
end Go.Proofs.Ytdkneonokbakjaa.Eng

noncomputable section
namespace Go.Proofs.Ytdkneonokbakjaa.Eng
open Go.RowKit
set_option maxRecDepth 100000
set_option maxHeartbeats 16000000
theorem all_succ {f : Nat → Bool} {k : Nat} (h : (List.range k).all f = true) (hk : f k = true) : (List.range (k + 1)).all f = true := by
  rw [List.range_succ, List.all_append, h]
  simp [hk]
theorem all_no {f : Nat → Bool} {n k : Nat} (hk : k < n) (h : f k = false) : (List.range n).all f = false := by
  rw [List.all_eq_false]
  exact ⟨k, List.mem_range.2 hk, by simp [h]⟩
theorem all_at {f : Nat → Bool} {n k : Nat} (h : (List.range n).all f = true) (hk : k < n) : f k = true := List.all_eq_true.1 h k (List.mem_range.2 hk)
def endR (s : RS) (l : List (Int × Int)) (i : Nat) : Int := match l[i + 1]? with
  | some r => r.1 + 1
  | none => s.short
def okRun (s : RS) (n : Nat) (l : List (Int × Int)) (i : Nat) : Bool := match l[i]? with
  | none => true
  | some r => (((if i = 0 then decide (r.1 = s.long) else match l[i - 1]? with
    | some p => decide (r.1 < p.1)
    | none => true) && decide (s.short ≤ r.1)) && decide (0 ≤ r.2)) && decide (r.2 < n)
theorem okRun_at {s : RS} {n : Nat} {l : List (Int × Int)} {i : Nat} {x p : Int} (h : l[i]? = some (x, p)) : okRun s n l i = ((((if i = 0 then decide (x = s.long) else match l[i - 1]? with
    | some p => decide (x < p.1)
    | none => true) && decide (s.short ≤ x)) && decide (0 ≤ p)) && decide (p < n)) := by
  unfold okRun
  rw [h]
def turnAt (ps : List Int) (p : Int) : Int := ps.getD p.toNat 0
def rimOk (s : RS) (ps : List Int) (l : List (Int × Int)) (i : Nat) : Bool := match l[i]? with
  | none => true
  | some r => okAt s (turnAt ps r.2) r.1 && okAt s (turnAt ps r.2) (endR s l i)
def cplE (s : RS) (ps : List Int) (l : List (Int × Int)) : Int := if stoE s ps = 0 then (if l.length < 1 ∨ 20 < l.length then 6 else if (List.range l.length).all (okRun s ps.length l) = true then (if (List.range l.length).all (rimOk s ps l) = true then 0 else 19) else 3) else stoE s ps
theorem runs_in {s : RS} {n : Nat} {l : List (Int × Int)} (h : (List.range l.length).all (okRun s n l) = true) : ∀ (i : Nat) (x p : Int), l[i]? = some (x, p) → s.short ≤ x ∧ x ≤ s.long ∧ 0 ≤ p ∧ p < n
  | 0, x, p, hx => by
    have h0 := all_at h (List.getElem?_eq_some_iff.1 hx).1
    rw [okRun_at hx] at h0
    simp only [if_true, Bool.and_eq_true, decide_eq_true_eq] at h0
    omega
  | i + 1, x, p, hx => by
    have hlt := (List.getElem?_eq_some_iff.1 hx).1
    have h0 := all_at h hlt
    rw [okRun_at hx] at h0
    obtain ⟨⟨y, q⟩, hy⟩ : ∃ r, l[i]? = some r := ⟨_, List.getElem?_eq_getElem (by omega)⟩
    obtain ⟨-, h2, -⟩ := runs_in h i y q hy
    simp only [Nat.succ_ne_zero, if_false, Nat.add_sub_cancel, hy, Bool.and_eq_true, decide_eq_true_eq] at h0
    omega
theorem runs_dec {s : RS} {n : Nat} {l : List (Int × Int)} (h : (List.range l.length).all (okRun s n l) = true) {i : Nat} {x p y q : Int} (hx : l[i]? = some (x, p)) (hy : l[i + 1]? = some (y, q)) : y < x := by
  have h0 := all_at h (List.getElem?_eq_some_iff.1 hy).1
  rw [okRun_at hy] at h0
  simp only [Nat.succ_ne_zero, if_false, Nat.add_sub_cancel, hx, Bool.and_eq_true, decide_eq_true_eq] at h0
  omega
theorem end_in {s : RS} (hg : GoodR s) {n : Nat} {l : List (Int × Int)} (h : (List.range l.length).all (okRun s n l) = true) {i : Nat} {x p : Int} (hx : l[i]? = some (x, p)) : s.short ≤ endR s l i ∧ endR s l i ≤ x := by
  have h1 := runs_in h i x p hx
  have := hg.s1
  unfold endR
  cases hy : l[i + 1]? with
  | none => simp only; omega
  | some r =>
    obtain ⟨y, q⟩ := r
    have h2 := runs_in h (i + 1) y q hy
    have h3 := runs_dec h hx hy
    simp only
    omega
end Go.Proofs.Ytdkneonokbakjaa.Eng

noncomputable section
namespace Go.Proofs.Ytdkneonokbakjaa.Eng
open Go.RowKit
set_option maxRecDepth 100000
set_option maxHeartbeats 16000000
structure PlanOk (s : RS) (ps : List Int) (l : List (Int × Int)) : Prop where
  ok : StoOk s ps
  l1 : 1 ≤ l.length
  l2 : l.length ≤ 20
  runs : (List.range l.length).all (okRun s ps.length l) = true
  rim : (List.range l.length).all (rimOk s ps l) = true
theorem cpl_ok {s : RS} {ps : List Int} {l : List (Int × Int)} : cplE s ps l = 0 ↔ PlanOk s ps l := by
  unfold cplE
  constructor
  · intro h
    by_cases h0 : stoE s ps = 0
    · rw [if_pos h0] at h
      split at h
      · cases h
      · split at h
        · split at h
          · exact ⟨stoE_ok.1 h0, by omega, by omega, by assumption, by assumption⟩
          · cases h
        · cases h
    · rw [if_neg h0] at h
      exact absurd h h0
  · intro h
    have := h.l1; have := h.l2
    rw [if_pos (stoE_ok.2 h.ok), if_neg (by omega), if_pos h.runs, if_pos h.rim]
structure RunOk (s : RS) (ps : List Int) (l : List (Int × Int)) (i : Nat) (x : Int) (P : Nat) (t : Int) : Prop where
  hP : P < ps.length
  turn : ps[P]? = some t
  ta : turnAt ps (P : Int) = t
  t1 : 1 ≤ t
  t2 : t ≤ 10000
  x1 : s.short ≤ x
  x2 : x ≤ s.long
  e1 : s.short ≤ endR s l i
  e2 : endR s l i ≤ x
  a1 : okAt s t x = true
  a2 : okAt s t (endR s l i) = true
theorem PlanOk.at {s : RS} {ps : List Int} {l : List (Int × Int)} (h : PlanOk s ps l) {i : Nat} {x p : Int} (hx : l[i]? = some (x, p)) : ∃ (P : Nat) (t : Int), p = (P : Int) ∧ RunOk s ps l i x P t := by
  obtain ⟨q1, q2, q3, q4⟩ := runs_in h.runs i x p hx
  obtain ⟨P, rfl⟩ := Int.eq_ofNat_of_zero_le q3
  have hP : P < ps.length := by omega
  obtain ⟨t, ht⟩ : ∃ t, ps[P]? = some t := ⟨_, List.getElem?_eq_getElem hP⟩
  have hta : turnAt ps (P : Int) = t := by rw [turnAt, Int.toNat_natCast, List.getD_eq_getElem?_getD, ht]; rfl
  obtain ⟨e1, e2⟩ := end_in h.ok.g h.runs hx
  have hr := all_at h.rim (List.getElem?_eq_some_iff.1 hx).1
  rw [rimOk, hx] at hr
  simp only [hta, Bool.and_eq_true] at hr
  obtain ⟨u1, u2⟩ := h.ok.turn ht
  exact ⟨P, t, rfl, hP, ht, hta, u1, u2, q1, q2, e1, e2, hr.1, hr.2⟩
end Go.Proofs.Ytdkneonokbakjaa.Eng

noncomputable section
namespace Go.Proofs.Ytdkneonokbakjaa.Eng
open Go.RowKit
set_option maxRecDepth 100000
set_option maxHeartbeats 8000000
theorem areFrom_c (lo hi : Int) (l : List Int) (hl : l.length ≤ 1000000) : ACall Try.prog 55 [iD lo, iD hi, intL l] (bD (fromZn lo hi l)) := by
  obtain ⟨r, hr⟩ : ∃ r, r = fromZn lo hi l := ⟨_, rfl⟩
  rw [← hr]
  refine acallK tabOk Try.func55 rfl rfl (show 3 ≤ _ by decide) rfl fun _ => ?_; simp only [Try.ntmps55]
  repeat (first | (with_reducible first | refine zq1 fun _ => ?_ | refine zq2 fun _ => ?_ | refine zq3 ?_) | ((first | refine zq4 ?_ | refine zq5 fun _ _ => ?_ | refine zq6 ?_); simp [-getElem?_pos, z0, z1, z2, z0]) | ((first | refine AWp.ret ?_ | refine AWp.skip ?_ | refine AWp.exit ?_); try simp only [thenP]) | (with_reducible refine zq7 ?_; simp only [blockP, thenP, reduceIte]) | with_reducible refine zq8 ?_)
  refine AWp.loopK (ι := { k : Nat // k ≤ l.length ∧ fromZn lo hi (l.take k) = true }) (n := 0) (fun k => [(0, .d (iD lo)), (1, .d (iD hi)), (9, .d (intL l)), (10, .d (iD l.length)), (11, .d (iD k.1))]) (fun _ => []) (fun k => l.length - k.1) ⟨0, Nat.zero_le _, rfl⟩ [] ?_ ?_
  · refine ⟨by rfl, by simp [], by simp [or_imp, forall_and, ] <;> (try (intro _hne; simp [_hne])), by decide⟩
  rintro ⟨k, hk, hall⟩ kk
  have w1 : IntKind.i64.wrap ((k : Int) + 1) = (k : Int) + 1 := wrap64_in (by omega)
  by_cases hlt : k < l.length
  · obtain ⟨x, hx⟩ : ∃ x, l[k]? = some x := ⟨_, List.getElem?_eq_getElem hlt⟩
    by_cases g : x < lo
    · have hr' : r = false := by rw [hr]; exact fromZn_not hx (.inl g)
      repeat (first | (with_reducible first | refine zq1 fun _ => ?_ | refine zq2 fun _ => ?_ | refine zq3 ?_) | ((first | refine zq4 ?_ | refine zq5 fun _ _ => ?_ | refine zq6 ?_); simp [-getElem?_pos, z0, z1, z2, hlt, hx, g]) | ((first | refine AWp.ret ?_ | refine AWp.skip ?_ | refine AWp.exit ?_); try simp only [thenP]) | (with_reducible refine zq7 ?_; simp only [blockP, thenP, reduceIte]) | with_reducible refine zq8 ?_)
      (first | refine RR.ret ?_ | refine RR.normal ?_); simp [hr']
    by_cases g2 : hi < x
    · have hr' : r = false := by rw [hr]; exact fromZn_not hx (.inr g2)
      repeat (first | (with_reducible first | refine zq1 fun _ => ?_ | refine zq2 fun _ => ?_ | refine zq3 ?_) | ((first | refine zq4 ?_ | refine zq5 fun _ _ => ?_ | refine zq6 ?_); simp [-getElem?_pos, z0, z1, z2, hlt, hx, g, g2]) | ((first | refine AWp.ret ?_ | refine AWp.skip ?_ | refine AWp.exit ?_); try simp only [thenP]) | (with_reducible refine zq7 ?_; simp only [blockP, thenP, reduceIte]) | with_reducible refine zq8 ?_)
      (first | refine RR.ret ?_ | refine RR.normal ?_); simp [hr']
    · repeat (first | (with_reducible first | refine zq1 fun _ => ?_ | refine zq2 fun _ => ?_ | refine zq3 ?_) | ((first | refine zq4 ?_ | refine zq5 fun _ _ => ?_ | refine zq6 ?_); simp [-getElem?_pos, z0, z1, z2, hlt, hx, g, g2, w1]) | ((first | refine AWp.ret ?_ | refine AWp.skip ?_ | refine AWp.exit ?_); try simp only [thenP]) | (with_reducible refine zq7 ?_; simp only [blockP, thenP, reduceIte]) | with_reducible refine zq8 ?_)
      refine LL.go ⟨k + 1, hlt, fromZn_take hx hall (by omega) (by omega)⟩ [] ⟨by rfl, by simp [], by simp [or_imp, forall_and, ] <;> (try (intro _hne; simp [_hne])), by decide⟩ ?_
      simp; omega
  · obtain rfl : k = l.length := by omega
    rw [List.take_of_length_le (Nat.le_refl _)] at hall
    have hr' : r = true := hr.trans hall
    repeat (first | (with_reducible first | refine zq1 fun _ => ?_ | refine zq2 fun _ => ?_ | refine zq3 ?_) | ((first | refine zq4 ?_ | refine zq5 fun _ _ => ?_ | refine zq6 ?_); simp [-getElem?_pos, z0, z1, z2, hlt]) | ((first | refine AWp.ret ?_ | refine AWp.skip ?_ | refine AWp.exit ?_); try simp only [thenP]) | (with_reducible refine zq7 ?_; simp only [blockP, thenP, reduceIte]) | with_reducible refine zq8 ?_)
    (first | refine RR.ret ?_ | refine RR.normal ?_); simp [hr']
theorem isStone_c (s : RS) : ACall Try.prog 54 [stoD s] (bD (okR s)) := by
  have c1 : ACall Try.prog 55 [iD 1, iD 100000, .list [[iD s.short], [iD s.long]]] (bD (fromZn 1 100000 [s.short, s.long])) := areFrom_c 1 100000 [s.short, s.long] (by simp)
  have c2 : ACall Try.prog 55 [iD 0, iD (s.short - 1), .list [[iD s.off]]] (bD (fromZn 0 (s.short - 1) [s.off])) := areFrom_c 0 (s.short - 1) [s.off] (by simp)
  have c3 : ACall Try.prog 55 [iD 0, iD 1000000000, .list [[iD s.lo], [iD s.hi]]] (bD (fromZn 0 1000000000 [s.lo, s.hi])) := areFrom_c 0 1000000000 [s.lo, s.hi] (by simp)
  obtain ⟨r, hr⟩ : ∃ r, r = okR s := ⟨_, rfl⟩
  rw [← hr]
  unfold okR at hr
  rcases g1 : fromZn 1 100000 [s.short, s.long]
  · rw [g1] at c1 hr
    refine acallK tabOk Try.func54 rfl rfl (show 1 ≤ _ by decide) rfl fun _ => ?_; simp only [Try.ntmps54]
    repeat (first | (with_reducible first | refine zq1 fun _ => ?_ | refine zq2 fun _ => ?_ | refine zq3 ?_) | ((first | refine zq4 ?_ | refine zq5 fun _ _ => ?_ | refine zq6 ?_); simp [-getElem?_pos, z0, z1, z2, z0]) | ((first | refine AWp.ret ?_ | refine AWp.skip ?_ | refine AWp.exit ?_); try simp only [thenP]) | (with_reducible refine zq7 ?_; simp only [blockP, thenP, reduceIte]) | with_reducible refine zq8 ?_)
    (first | refine Exec0.call [6] c1 ?_ rfl ?_ ?_ | refine Exec.call [6] c1 ?_ rfl ?_ ?_); (focus simp [-getElem?_pos, ]); (focus simp [-getElem?_pos, z0, z1, z2, ]); simp [-getElem?_pos, z0, z1, z2, ]
    repeat (first | (with_reducible first | refine zq1 fun _ => ?_ | refine zq2 fun _ => ?_ | refine zq3 ?_) | ((first | refine zq4 ?_ | refine zq5 fun _ _ => ?_ | refine zq6 ?_); simp [-getElem?_pos, z0, z1, z2, z0]) | ((first | refine AWp.ret ?_ | refine AWp.skip ?_ | refine AWp.exit ?_); try simp only [thenP]) | (with_reducible refine zq7 ?_; simp only [blockP, thenP, reduceIte]) | with_reducible refine zq8 ?_)
    (first | refine RR.ret ?_ | refine RR.normal ?_); simp [hr]
  have hb : 1 ≤ s.short ∧ s.short ≤ 100000 := by
    have := List.all_eq_true.1 g1 s.short (by simp)
    simpa [inZn] using this
  rw [g1] at c1 hr
  have w1 : IntKind.i64.wrap (s.short - 1) = s.short - 1 := wrap64_in (by omega)
  by_cases g2 : s.long < s.short
  · rw [decide_eq_false (show ¬ s.short ≤ s.long by omega)] at hr
    refine acallK tabOk Try.func54 rfl rfl (show 1 ≤ _ by decide) rfl fun _ => ?_; simp only [Try.ntmps54]
    repeat (first | (with_reducible first | refine zq1 fun _ => ?_ | refine zq2 fun _ => ?_ | refine zq3 ?_) | ((first | refine zq4 ?_ | refine zq5 fun _ _ => ?_ | refine zq6 ?_); simp [-getElem?_pos, z0, z1, z2, z0]) | ((first | refine AWp.ret ?_ | refine AWp.skip ?_ | refine AWp.exit ?_); try simp only [thenP]) | (with_reducible refine zq7 ?_; simp only [blockP, thenP, reduceIte]) | with_reducible refine zq8 ?_)
    (first | refine Exec0.call [6] c1 ?_ rfl ?_ ?_ | refine Exec.call [6] c1 ?_ rfl ?_ ?_); (focus simp [-getElem?_pos, g2]); (focus simp [-getElem?_pos, z0, z1, z2, g2]); simp [-getElem?_pos, z0, z1, z2, g2]
    repeat (first | (with_reducible first | refine zq1 fun _ => ?_ | refine zq2 fun _ => ?_ | refine zq3 ?_) | ((first | refine zq4 ?_ | refine zq5 fun _ _ => ?_ | refine zq6 ?_); simp [-getElem?_pos, z0, z1, z2, g2]) | ((first | refine AWp.ret ?_ | refine AWp.skip ?_ | refine AWp.exit ?_); try simp only [thenP]) | (with_reducible refine zq7 ?_; simp only [blockP, thenP, reduceIte]) | with_reducible refine zq8 ?_)
    (first | refine RR.ret ?_ | refine RR.normal ?_); simp [hr]
  rw [decide_eq_true (show s.short ≤ s.long by omega)] at hr
  rcases g3 : fromZn 0 (s.short - 1) [s.off] <;> rw [g3] at c2 hr
  · refine acallK tabOk Try.func54 rfl rfl (show 1 ≤ _ by decide) rfl fun _ => ?_; simp only [Try.ntmps54]
    repeat (first | (with_reducible first | refine zq1 fun _ => ?_ | refine zq2 fun _ => ?_ | refine zq3 ?_) | ((first | refine zq4 ?_ | refine zq5 fun _ _ => ?_ | refine zq6 ?_); simp [-getElem?_pos, z0, z1, z2, z0]) | ((first | refine AWp.ret ?_ | refine AWp.skip ?_ | refine AWp.exit ?_); try simp only [thenP]) | (with_reducible refine zq7 ?_; simp only [blockP, thenP, reduceIte]) | with_reducible refine zq8 ?_)
    (first | refine Exec0.call [6] c1 ?_ rfl ?_ ?_ | refine Exec.call [6] c1 ?_ rfl ?_ ?_); (focus simp [-getElem?_pos, g2]); (focus simp [-getElem?_pos, z0, z1, z2, g2]); simp [-getElem?_pos, z0, z1, z2, g2]
    repeat (first | (with_reducible first | refine zq1 fun _ => ?_ | refine zq2 fun _ => ?_ | refine zq3 ?_) | ((first | refine zq4 ?_ | refine zq5 fun _ _ => ?_ | refine zq6 ?_); simp [-getElem?_pos, z0, z1, z2, g2, w1]) | ((first | refine AWp.ret ?_ | refine AWp.skip ?_ | refine AWp.exit ?_); try simp only [thenP]) | (with_reducible refine zq7 ?_; simp only [blockP, thenP, reduceIte]) | with_reducible refine zq8 ?_)
    (first | refine Exec0.call [21] c2 ?_ rfl ?_ ?_ | refine Exec.call [21] c2 ?_ rfl ?_ ?_); (focus simp [-getElem?_pos, ]); (focus simp [-getElem?_pos, z0, z1, z2, ]); simp [-getElem?_pos, z0, z1, z2, ]
    repeat (first | (with_reducible first | refine zq1 fun _ => ?_ | refine zq2 fun _ => ?_ | refine zq3 ?_) | ((first | refine zq4 ?_ | refine zq5 fun _ _ => ?_ | refine zq6 ?_); simp [-getElem?_pos, z0, z1, z2, z0]) | ((first | refine AWp.ret ?_ | refine AWp.skip ?_ | refine AWp.exit ?_); try simp only [thenP]) | (with_reducible refine zq7 ?_; simp only [blockP, thenP, reduceIte]) | with_reducible refine zq8 ?_)
    (first | refine RR.ret ?_ | refine RR.normal ?_); simp [hr]
  rcases g4 : fromZn 0 1000000000 [s.lo, s.hi] <;> rw [g4] at c3 hr
  · refine acallK tabOk Try.func54 rfl rfl (show 1 ≤ _ by decide) rfl fun _ => ?_; simp only [Try.ntmps54]
    repeat (first | (with_reducible first | refine zq1 fun _ => ?_ | refine zq2 fun _ => ?_ | refine zq3 ?_) | ((first | refine zq4 ?_ | refine zq5 fun _ _ => ?_ | refine zq6 ?_); simp [-getElem?_pos, z0, z1, z2, z0]) | ((first | refine AWp.ret ?_ | refine AWp.skip ?_ | refine AWp.exit ?_); try simp only [thenP]) | (with_reducible refine zq7 ?_; simp only [blockP, thenP, reduceIte]) | with_reducible refine zq8 ?_)
    (first | refine Exec0.call [6] c1 ?_ rfl ?_ ?_ | refine Exec.call [6] c1 ?_ rfl ?_ ?_); (focus simp [-getElem?_pos, g2]); (focus simp [-getElem?_pos, z0, z1, z2, g2]); simp [-getElem?_pos, z0, z1, z2, g2]
    repeat (first | (with_reducible first | refine zq1 fun _ => ?_ | refine zq2 fun _ => ?_ | refine zq3 ?_) | ((first | refine zq4 ?_ | refine zq5 fun _ _ => ?_ | refine zq6 ?_); simp [-getElem?_pos, z0, z1, z2, g2, w1]) | ((first | refine AWp.ret ?_ | refine AWp.skip ?_ | refine AWp.exit ?_); try simp only [thenP]) | (with_reducible refine zq7 ?_; simp only [blockP, thenP, reduceIte]) | with_reducible refine zq8 ?_)
    (first | refine Exec0.call [21] c2 ?_ rfl ?_ ?_ | refine Exec.call [21] c2 ?_ rfl ?_ ?_); (focus simp [-getElem?_pos, ]); (focus simp [-getElem?_pos, z0, z1, z2, ]); simp [-getElem?_pos, z0, z1, z2, ]
    repeat (first | (with_reducible first | refine zq1 fun _ => ?_ | refine zq2 fun _ => ?_ | refine zq3 ?_) | ((first | refine zq4 ?_ | refine zq5 fun _ _ => ?_ | refine zq6 ?_); simp [-getElem?_pos, z0, z1, z2, z0]) | ((first | refine AWp.ret ?_ | refine AWp.skip ?_ | refine AWp.exit ?_); try simp only [thenP]) | (with_reducible refine zq7 ?_; simp only [blockP, thenP, reduceIte]) | with_reducible refine zq8 ?_)
    (first | refine Exec0.call [30] c3 ?_ rfl ?_ ?_ | refine Exec.call [30] c3 ?_ rfl ?_ ?_); (focus simp [-getElem?_pos, ]); (focus simp [-getElem?_pos, z0, z1, z2, ]); simp [-getElem?_pos, z0, z1, z2, ]
    repeat (first | (with_reducible first | refine zq1 fun _ => ?_ | refine zq2 fun _ => ?_ | refine zq3 ?_) | ((first | refine zq4 ?_ | refine zq5 fun _ _ => ?_ | refine zq6 ?_); simp [-getElem?_pos, z0, z1, z2, z0]) | ((first | refine AWp.ret ?_ | refine AWp.skip ?_ | refine AWp.exit ?_); try simp only [thenP]) | (with_reducible refine zq7 ?_; simp only [blockP, thenP, reduceIte]) | with_reducible refine zq8 ?_)
    (first | refine RR.ret ?_ | refine RR.normal ?_); simp [hr]
  by_cases g5 : s.lo ≤ s.hi
  · rw [decide_eq_true g5] at hr
    refine acallK tabOk Try.func54 rfl rfl (show 1 ≤ _ by decide) rfl fun _ => ?_; simp only [Try.ntmps54]
    repeat (first | (with_reducible first | refine zq1 fun _ => ?_ | refine zq2 fun _ => ?_ | refine zq3 ?_) | ((first | refine zq4 ?_ | refine zq5 fun _ _ => ?_ | refine zq6 ?_); simp [-getElem?_pos, z0, z1, z2, z0]) | ((first | refine AWp.ret ?_ | refine AWp.skip ?_ | refine AWp.exit ?_); try simp only [thenP]) | (with_reducible refine zq7 ?_; simp only [blockP, thenP, reduceIte]) | with_reducible refine zq8 ?_)
    (first | refine Exec0.call [6] c1 ?_ rfl ?_ ?_ | refine Exec.call [6] c1 ?_ rfl ?_ ?_); (focus simp [-getElem?_pos, g2]); (focus simp [-getElem?_pos, z0, z1, z2, g2]); simp [-getElem?_pos, z0, z1, z2, g2]
    repeat (first | (with_reducible first | refine zq1 fun _ => ?_ | refine zq2 fun _ => ?_ | refine zq3 ?_) | ((first | refine zq4 ?_ | refine zq5 fun _ _ => ?_ | refine zq6 ?_); simp [-getElem?_pos, z0, z1, z2, g2, w1]) | ((first | refine AWp.ret ?_ | refine AWp.skip ?_ | refine AWp.exit ?_); try simp only [thenP]) | (with_reducible refine zq7 ?_; simp only [blockP, thenP, reduceIte]) | with_reducible refine zq8 ?_)
    (first | refine Exec0.call [21] c2 ?_ rfl ?_ ?_ | refine Exec.call [21] c2 ?_ rfl ?_ ?_); (focus simp [-getElem?_pos, ]); (focus simp [-getElem?_pos, z0, z1, z2, ]); simp [-getElem?_pos, z0, z1, z2, ]
    repeat (first | (with_reducible first | refine zq1 fun _ => ?_ | refine zq2 fun _ => ?_ | refine zq3 ?_) | ((first | refine zq4 ?_ | refine zq5 fun _ _ => ?_ | refine zq6 ?_); simp [-getElem?_pos, z0, z1, z2, z0]) | ((first | refine AWp.ret ?_ | refine AWp.skip ?_ | refine AWp.exit ?_); try simp only [thenP]) | (with_reducible refine zq7 ?_; simp only [blockP, thenP, reduceIte]) | with_reducible refine zq8 ?_)
    (first | refine Exec0.call [30] c3 ?_ rfl ?_ ?_ | refine Exec.call [30] c3 ?_ rfl ?_ ?_); (focus simp [-getElem?_pos, g5]); (focus simp [-getElem?_pos, z0, z1, z2, g5]); simp [-getElem?_pos, z0, z1, z2, g5]
    repeat (first | (with_reducible first | refine zq1 fun _ => ?_ | refine zq2 fun _ => ?_ | refine zq3 ?_) | ((first | refine zq4 ?_ | refine zq5 fun _ _ => ?_ | refine zq6 ?_); simp [-getElem?_pos, z0, z1, z2, g5]) | ((first | refine AWp.ret ?_ | refine AWp.skip ?_ | refine AWp.exit ?_); try simp only [thenP]) | (with_reducible refine zq7 ?_; simp only [blockP, thenP, reduceIte]) | with_reducible refine zq8 ?_)
    (first | refine RR.ret ?_ | refine RR.normal ?_); simp [hr]
  · rw [decide_eq_false g5] at hr
    refine acallK tabOk Try.func54 rfl rfl (show 1 ≤ _ by decide) rfl fun _ => ?_; simp only [Try.ntmps54]
    repeat (first | (with_reducible first | refine zq1 fun _ => ?_ | refine zq2 fun _ => ?_ | refine zq3 ?_) | ((first | refine zq4 ?_ | refine zq5 fun _ _ => ?_ | refine zq6 ?_); simp [-getElem?_pos, z0, z1, z2, z0]) | ((first | refine AWp.ret ?_ | refine AWp.skip ?_ | refine AWp.exit ?_); try simp only [thenP]) | (with_reducible refine zq7 ?_; simp only [blockP, thenP, reduceIte]) | with_reducible refine zq8 ?_)
    (first | refine Exec0.call [6] c1 ?_ rfl ?_ ?_ | refine Exec.call [6] c1 ?_ rfl ?_ ?_); (focus simp [-getElem?_pos, g2]); (focus simp [-getElem?_pos, z0, z1, z2, g2]); simp [-getElem?_pos, z0, z1, z2, g2]
    repeat (first | (with_reducible first | refine zq1 fun _ => ?_ | refine zq2 fun _ => ?_ | refine zq3 ?_) | ((first | refine zq4 ?_ | refine zq5 fun _ _ => ?_ | refine zq6 ?_); simp [-getElem?_pos, z0, z1, z2, g2, w1]) | ((first | refine AWp.ret ?_ | refine AWp.skip ?_ | refine AWp.exit ?_); try simp only [thenP]) | (with_reducible refine zq7 ?_; simp only [blockP, thenP, reduceIte]) | with_reducible refine zq8 ?_)
    (first | refine Exec0.call [21] c2 ?_ rfl ?_ ?_ | refine Exec.call [21] c2 ?_ rfl ?_ ?_); (focus simp [-getElem?_pos, ]); (focus simp [-getElem?_pos, z0, z1, z2, ]); simp [-getElem?_pos, z0, z1, z2, ]
    repeat (first | (with_reducible first | refine zq1 fun _ => ?_ | refine zq2 fun _ => ?_ | refine zq3 ?_) | ((first | refine zq4 ?_ | refine zq5 fun _ _ => ?_ | refine zq6 ?_); simp [-getElem?_pos, z0, z1, z2, z0]) | ((first | refine AWp.ret ?_ | refine AWp.skip ?_ | refine AWp.exit ?_); try simp only [thenP]) | (with_reducible refine zq7 ?_; simp only [blockP, thenP, reduceIte]) | with_reducible refine zq8 ?_)
    (first | refine Exec0.call [30] c3 ?_ rfl ?_ ?_ | refine Exec.call [30] c3 ?_ rfl ?_ ?_); (focus simp [-getElem?_pos, g5]); (focus simp [-getElem?_pos, z0, z1, z2, g5]); simp [-getElem?_pos, z0, z1, z2, g5]
    repeat (first | (with_reducible first | refine zq1 fun _ => ?_ | refine zq2 fun _ => ?_ | refine zq3 ?_) | ((first | refine zq4 ?_ | refine zq5 fun _ _ => ?_ | refine zq6 ?_); simp [-getElem?_pos, z0, z1, z2, g5]) | ((first | refine AWp.ret ?_ | refine AWp.skip ?_ | refine AWp.exit ?_); try simp only [thenP]) | (with_reducible refine zq7 ?_; simp only [blockP, thenP, reduceIte]) | with_reducible refine zq8 ?_)
    (first | refine RR.ret ?_ | refine RR.normal ?_); simp [hr]
theorem checkStone_c (s : RS) (ps : List Int) (hl : ps.length ≤ 1000000) : ACall Try.prog 22 [stoD s, intL ps] (iD (stoE s ps)) := by
  have c1 := isStone_c s
  have c2 := areFrom_c 1 10000 ps hl
  obtain ⟨e, he⟩ : ∃ e, e = stoE s ps := ⟨_, rfl⟩
  rw [← he]
  unfold stoE at he
  by_cases b1 : ps.length < 1
  · have he' : e = 6 := by rw [he, if_pos (.inl b1)]
    have b0 : ps = [] := List.length_eq_zero_iff.1 (by omega)
    subst b0
    refine acallK tabOk Try.func22 rfl rfl (show 2 ≤ _ by decide) rfl fun _ => ?_; simp only [Try.ntmps22]
    repeat (first | (with_reducible first | refine zq1 fun _ => ?_ | refine zq2 fun _ => ?_ | refine zq3 ?_) | ((first | refine zq4 ?_ | refine zq5 fun _ _ => ?_ | refine zq6 ?_); simp [-getElem?_pos, z0, z1, z2, z0]) | ((first | refine AWp.ret ?_ | refine AWp.skip ?_ | refine AWp.exit ?_); try simp only [thenP]) | (with_reducible refine zq7 ?_; simp only [blockP, thenP, reduceIte]) | with_reducible refine zq8 ?_)
    (first | refine RR.ret ?_ | refine RR.normal ?_); simp [he']
  have b1i : ¬ (ps.length : Int) < 1 := by omega
  have b0 : ¬ ps = [] := fun h => by subst h; simp at b1
  by_cases b2 : 12 < ps.length
  · have he' : e = 6 := by rw [he, if_pos (.inr b2)]
    have b2i : (12 : Int) < ps.length := by omega
    refine acallK tabOk Try.func22 rfl rfl (show 2 ≤ _ by decide) rfl fun _ => ?_; simp only [Try.ntmps22]
    repeat (first | (with_reducible first | refine zq1 fun _ => ?_ | refine zq2 fun _ => ?_ | refine zq3 ?_) | ((first | refine zq4 ?_ | refine zq5 fun _ _ => ?_ | refine zq6 ?_); simp [-getElem?_pos, z0, z1, z2, b0, b1, b1i, b2, b2i]) | ((first | refine AWp.ret ?_ | refine AWp.skip ?_ | refine AWp.exit ?_); try simp only [thenP]) | (with_reducible refine zq7 ?_; simp only [blockP, thenP, reduceIte]) | with_reducible refine zq8 ?_)
    (first | refine RR.ret ?_ | refine RR.normal ?_); simp [he']
  have b2i : ¬ (12 : Int) < ps.length := by omega
  rw [if_neg (by omega)] at he
  rcases g1 : okR s <;> rw [g1] at c1 he
  · refine acallK tabOk Try.func22 rfl rfl (show 2 ≤ _ by decide) rfl fun _ => ?_; simp only [Try.ntmps22]
    repeat (first | (with_reducible first | refine zq1 fun _ => ?_ | refine zq2 fun _ => ?_ | refine zq3 ?_) | ((first | refine zq4 ?_ | refine zq5 fun _ _ => ?_ | refine zq6 ?_); simp [-getElem?_pos, z0, z1, z2, b0, b1, b1i, b2, b2i]) | ((first | refine AWp.ret ?_ | refine AWp.skip ?_ | refine AWp.exit ?_); try simp only [thenP]) | (with_reducible refine zq7 ?_; simp only [blockP, thenP, reduceIte]) | with_reducible refine zq8 ?_)
    (first | refine Exec0.call [] c1 ?_ rfl ?_ ?_ | refine Exec.call [] c1 ?_ rfl ?_ ?_); (focus simp [-getElem?_pos, ]); (focus simp [-getElem?_pos, z0, z1, z2, ]); simp [-getElem?_pos, z0, z1, z2, ]
    repeat (first | (with_reducible first | refine zq1 fun _ => ?_ | refine zq2 fun _ => ?_ | refine zq3 ?_) | ((first | refine zq4 ?_ | refine zq5 fun _ _ => ?_ | refine zq6 ?_); simp [-getElem?_pos, z0, z1, z2, z0]) | ((first | refine AWp.ret ?_ | refine AWp.skip ?_ | refine AWp.exit ?_); try simp only [thenP]) | (with_reducible refine zq7 ?_; simp only [blockP, thenP, reduceIte]) | with_reducible refine zq8 ?_)
    (first | refine RR.ret ?_ | refine RR.normal ?_); simp [he]
  rcases g2 : fromZn 1 10000 ps <;> rw [g2] at c2 he
  · refine acallK tabOk Try.func22 rfl rfl (show 2 ≤ _ by decide) rfl fun _ => ?_; simp only [Try.ntmps22]
    repeat (first | (with_reducible first | refine zq1 fun _ => ?_ | refine zq2 fun _ => ?_ | refine zq3 ?_) | ((first | refine zq4 ?_ | refine zq5 fun _ _ => ?_ | refine zq6 ?_); simp [-getElem?_pos, z0, z1, z2, b0, b1, b1i, b2, b2i]) | ((first | refine AWp.ret ?_ | refine AWp.skip ?_ | refine AWp.exit ?_); try simp only [thenP]) | (with_reducible refine zq7 ?_; simp only [blockP, thenP, reduceIte]) | with_reducible refine zq8 ?_)
    (first | refine Exec0.call [] c1 ?_ rfl ?_ ?_ | refine Exec.call [] c1 ?_ rfl ?_ ?_); (focus simp [-getElem?_pos, ]); (focus simp [-getElem?_pos, z0, z1, z2, ]); simp [-getElem?_pos, z0, z1, z2, ]
    repeat (first | (with_reducible first | refine zq1 fun _ => ?_ | refine zq2 fun _ => ?_ | refine zq3 ?_) | ((first | refine zq4 ?_ | refine zq5 fun _ _ => ?_ | refine zq6 ?_); simp [-getElem?_pos, z0, z1, z2, z0]) | ((first | refine AWp.ret ?_ | refine AWp.skip ?_ | refine AWp.exit ?_); try simp only [thenP]) | (with_reducible refine zq7 ?_; simp only [blockP, thenP, reduceIte]) | with_reducible refine zq8 ?_)
    (first | refine Exec0.call [] c2 ?_ rfl ?_ ?_ | refine Exec.call [] c2 ?_ rfl ?_ ?_); (focus simp [-getElem?_pos, ]); (focus simp [-getElem?_pos, z0, z1, z2, ]); simp [-getElem?_pos, z0, z1, z2, ]
    repeat (first | (with_reducible first | refine zq1 fun _ => ?_ | refine zq2 fun _ => ?_ | refine zq3 ?_) | ((first | refine zq4 ?_ | refine zq5 fun _ _ => ?_ | refine zq6 ?_); simp [-getElem?_pos, z0, z1, z2, z0]) | ((first | refine AWp.ret ?_ | refine AWp.skip ?_ | refine AWp.exit ?_); try simp only [thenP]) | (with_reducible refine zq7 ?_; simp only [blockP, thenP, reduceIte]) | with_reducible refine zq8 ?_)
    (first | refine RR.ret ?_ | refine RR.normal ?_); simp [he]
  · refine acallK tabOk Try.func22 rfl rfl (show 2 ≤ _ by decide) rfl fun _ => ?_; simp only [Try.ntmps22]
    repeat (first | (with_reducible first | refine zq1 fun _ => ?_ | refine zq2 fun _ => ?_ | refine zq3 ?_) | ((first | refine zq4 ?_ | refine zq5 fun _ _ => ?_ | refine zq6 ?_); simp [-getElem?_pos, z0, z1, z2, b0, b1, b1i, b2, b2i]) | ((first | refine AWp.ret ?_ | refine AWp.skip ?_ | refine AWp.exit ?_); try simp only [thenP]) | (with_reducible refine zq7 ?_; simp only [blockP, thenP, reduceIte]) | with_reducible refine zq8 ?_)
    (first | refine Exec0.call [] c1 ?_ rfl ?_ ?_ | refine Exec.call [] c1 ?_ rfl ?_ ?_); (focus simp [-getElem?_pos, ]); (focus simp [-getElem?_pos, z0, z1, z2, ]); simp [-getElem?_pos, z0, z1, z2, ]
    repeat (first | (with_reducible first | refine zq1 fun _ => ?_ | refine zq2 fun _ => ?_ | refine zq3 ?_) | ((first | refine zq4 ?_ | refine zq5 fun _ _ => ?_ | refine zq6 ?_); simp [-getElem?_pos, z0, z1, z2, z0]) | ((first | refine AWp.ret ?_ | refine AWp.skip ?_ | refine AWp.exit ?_); try simp only [thenP]) | (with_reducible refine zq7 ?_; simp only [blockP, thenP, reduceIte]) | with_reducible refine zq8 ?_)
    (first | refine Exec0.call [] c2 ?_ rfl ?_ ?_ | refine Exec.call [] c2 ?_ rfl ?_ ?_); (focus simp [-getElem?_pos, ]); (focus simp [-getElem?_pos, z0, z1, z2, ]); simp [-getElem?_pos, z0, z1, z2, ]
    repeat (first | (with_reducible first | refine zq1 fun _ => ?_ | refine zq2 fun _ => ?_ | refine zq3 ?_) | ((first | refine zq4 ?_ | refine zq5 fun _ _ => ?_ | refine zq6 ?_); simp [-getElem?_pos, z0, z1, z2, z0]) | ((first | refine AWp.ret ?_ | refine AWp.skip ?_ | refine AWp.exit ?_); try simp only [thenP]) | (with_reducible refine zq7 ?_; simp only [blockP, thenP, reduceIte]) | with_reducible refine zq8 ?_)
    (first | refine RR.ret ?_ | refine RR.normal ?_); simp [he]
end Go.Proofs.Ytdkneonokbakjaa.Eng

namespace Go.Proofs.Ytdkneonokbakjaa.Eng
open Go.RowKit
open Go.ChangeMaps (setBlock)
variable {P : Program} {T : Tab} {r : Option Nat} {ns n : Nat} {s : St}
def keyS : Value → SV
  | .agg cs => .agg (cs.toList.map fun c => .d (.val c))
  | v => .d (.val v)
def keyOk : Value → Bool
  | .agg cs => cs.toList.all (·.oneCell')
  | v => v.oneCell'
theorem keyS_rep {E : Env} {w : World} {v : Value} (h : keyOk v = true) : Rep E w (keyS v) v := by
  cases v with
  | agg cs =>
    refine .agg _ cs (by simp) (fun c hc => ?_) fun i c u hc hu => ?_
    · obtain ⟨x, _, rfl⟩ := List.mem_map.1 hc
      rfl
    · have hu' : cs.toList[i]? = some u := by simpa using hu
      rw [List.getElem?_map, hu'] at hc
      cases hc
      exact .d _ _ (.val _ (List.all_eq_true.1 h u (List.mem_of_getElem? hu')))
  | _ => exact .d _ _ (.val _ h)
theorem stepI_range {o : Oper} {t : TypeId} {x : Operand} {mid clock : Nat} {es : List (Value × SV × Nat)} {f : Bool} {k e : TypeId} (ho : o.op = .range t x) (ht : P.underlying t = some (.map k e)) (hx : opd ns s x = some (.mp mid)) (hm : s.mem mid = some (.map es clock f)) :
    StepI P r ns n s o fun n' s' => n' = n + 1 ∧ s' = { slots := setSlot s.slots o.dst (.ptr n 0 0), mem := setMem s.mem n (some (.iter mid clock clock [] false)) } := by
  intro W0 R0 B E a w hi h hd K Q hK
  refine oper_in (fun c e => by rw [ho] at e; cases e) ?_
  obtain ⟨u, hu⟩ : ∃ u, a.eval x = u := ⟨_, rfl⟩
  have hr := h.opd hx
  rw [hu] at hr
  cases hr with
  | mp _ hdm =>
    have H := h.mem mid _ hm
    cases H with
    | map _ _ _ ents h1 h2 h3 =>
      have hex : (execOp a.eval o).run P w = .ok (.value (.pointer (some ⟨w.heap.size, 0, none⟩))) (w.alloc (.mapIter (some (E.home mid).blk) clock #[] clock)) := by
        have hg : (getObj (E.home mid).blk).run P w = .ok (.map ents clock) w := by simp only [getObj, Sem.run, h1]
        simp only [execOp, ho, hu, Instr.range, Sem.run_bind, run_underlying ht, Result.andThen_ok, hg, run_newObj_alloc, Sem.run_pure]
      unfold Oper.wp
      rw [hex]
      have hb : Below w.heap.size w (w.alloc (.mapIter (some (E.home mid).blk) clock #[] clock)) := (Below.refl _ _).alloc (Nat.le_refl _) _
      have hD : ¬ (· < n) n := Nat.lt_irrefl n
      have hid : ¬ E.dom n := fun hk => Nat.lt_irrefl n (h.dom n hk)
      have hro : ∀ b, E.ro b → (w.alloc (.mapIter (some (E.home mid).blk) clock #[] clock)).heap[b]? = w.heap[b]? := fun b hb' => hb.block b (h.rlt b hb')
      have hE := E.le_add n ⟨w.heap.size, 1, 0⟩ hid
      have key := h.new hD (.iter mid clock clock [] false) ⟨w.heap.size, 1, 0⟩ (h.kept hb) hro (fun k c hk => hb.block _ (h.mem k c hk).lt) (.iter mid clock clock [] false #[] (by rw [hE.home mid hdm]; exact heap_alloc_new w _) (hE.dom mid hdm) (Nat.le_refl _) ⟨by simp, rfl⟩) (h.fresh (Nat.le_refl _)) rfl (fun hk => Nat.lt_irrefl _ (h.rlt _ hk)) (fun k c hk e => Nat.lt_irrefl _ (e ▸ (h.mem k c hk).lt))
      have hp : Rep (E.add n ⟨w.heap.size, 1, 0⟩) (w.alloc (.mapIter (some (E.home mid).blk) clock #[] clock)) (.ptr n 0 0) (.pointer (some ⟨w.heap.size, 0, none⟩)) := by
        have := Rep.ptr (E := E.add n ⟨w.heap.size, 1, 0⟩) (w := w.alloc (.mapIter (some (E.home mid).blk) clock #[] clock)) n 0 0 (.inl rfl)
        simpa [Env.add] using this
      exact hK (n + 1) _ _ _ _ ⟨rfl, rfl⟩ ((key.weak (D' := (· < n + 1)) fun i hi => by omega).put hd hp)
theorem stepI_next {o : Oper} {x : Operand} {id mid since last clock : Nat} {seen : List Nat} {es : List (Value × SV × Nat)} {f : Bool} (ho : o.op = .next x false) (hx : opd ns s x = some (.ptr id 0 0)) (hi : s.mem id = some (.iter mid since last seen false)) (hm : s.mem mid = some (.map es clock f))
    (hlt : ∀ q ∈ es, q.2.2 < since) (hc : since ≤ clock) (hk : ∀ q ∈ es, keyOk q.1 = true) :
    StepI P r ns n s o fun n' s' => n' = n ∧ (((∀ q ∈ es, q.2.2 ∈ seen) ∧ s' = { s with slots := setSlot s.slots o.dst (.tup [.d (.val (.bool false))]) }) ∨
      ∃ q ∈ es, q.2.2 ∉ seen ∧ s' = { slots := setSlot s.slots o.dst (.tup [.d (.val (.bool true)), keyS q.1, q.2.1]), mem := setMem s.mem id (some (.iter mid since clock (q.2.2 :: seen) false)) }) := by
  intro W0 R0 B E a w hin h hd K Q hK
  refine oper_in (fun c e => by rw [ho] at e; cases e) ?_
  obtain ⟨u, hu⟩ : ∃ u, a.eval x = u := ⟨_, rfl⟩
  have hr := h.opd hx
  rw [hu] at hr
  have hp : E.dom id ∧ u = .pointer (some ⟨(E.home id).blk, 0, none⟩) := by
    cases hr with | ptr _ _ _ hd => exact ⟨hd, by simp⟩
  have Hi := h.mem id _ hi
  have Hm := h.mem mid _ hm
  cases Hi with
  | iter _ _ _ _ _ arr g1 g2 g3 g4' =>
    have g4 := g4'.1
    cases Hm with
    | map _ _ _ ents h1 h2 h3 =>
      have hents : ∀ x ∈ ents.toList, ∃ i q, es[i]? = some q ∧ ents[i]? = some x := fun x hx => by
        obtain ⟨i, hi⟩ := List.getElem?_of_mem hx
        have hi2 : ents[i]? = some x := by simpa using hi
        have hlt : i < ents.size := (Array.getElem?_eq_some_iff.1 hi2).1
        exact ⟨i, _, List.getElem?_eq_getElem (by omega), hi2⟩
      have hold : ∀ x ∈ ents.toList, x.born < since := fun x hx => by
        obtain ⟨i, q, h4, h5⟩ := hents x hx
        rw [(h3 i q x h4 h5).2.1]
        exact hlt q (List.mem_of_getElem? h4)
      have hrun := run_next_at (P := P) w o.type (E.home id).blk (E.home mid).blk since last arr ents clock g1 h1 hold g3
      have hexe : ∀ {v : Value} {w' : World}, (Instr.next (.pointer (some ⟨(E.home id).blk, 0, none⟩)) false o.type).run P w = .ok v w' → (execOp a.eval o).run P w = .ok (.value v) w' := fun {v w'} hr => by
        simp [execOp, ho, hu, hp.2, hr]
      unfold Oper.wp
      have hleft : ∀ x, x ∈ (_root_.Go.leftOf ents arr).toList ↔ x ∈ ents.toList ∧ x.born ∉ seen := fun x => by
        unfold _root_.Go.leftOf
        rw [← g4 x.born]
        simp
      rcases hrun with ⟨z0, z1⟩ | ⟨x, x1, w1, x2, x3⟩
      · rw [hexe z1]
        refine hK n _ E _ w ⟨rfl, .inl ⟨fun q hq => ?_, rfl⟩⟩ (h.put hd (.tup _ _ rfl fun i c v hc hv => ?_))
        · obtain ⟨i, hi⟩ := List.getElem?_of_mem hq
          have hi3 : i < es.length := (List.getElem?_eq_some_iff.1 hi).1
          have hi2 : ents[i]? = some (ents[i]'(by omega)) := Array.getElem?_eq_getElem (by omega)
          have hb := (h3 i q _ hi hi2).2.1
          by_cases hs : q.2.2 ∈ seen
          · exact hs
          · have : ents[i]'(by omega) ∈ (_root_.Go.leftOf ents arr).toList := (hleft _).2 ⟨by simp, by rw [hb]; exact hs⟩
            rw [Array.size_eq_zero_iff.1 z0] at this
            simp at this
        · match i with
          | 0 => simp at hc hv; subst hc; subst hv; exact rep_val rfl
          | i + 1 => simp at hc
      · obtain ⟨y1, y2⟩ := (hleft x).1 x1
        obtain ⟨i, q, h4, h5⟩ := hents x y1
        obtain ⟨k1, k2, k3⟩ := h3 i q x h4 h5
        have hqm := List.mem_of_getElem? h4
        rw [hexe x3]
        have hrow : w1.heap = w.heap ∧ w1.os = w.os ∧ w1.tape = w.tape ∧ w1.output = w.output := by rcases x2 with rfl | rfl <;> exact ⟨rfl, rfl, rfl, rfl⟩
        have hlt2 : (E.home id).blk < w.heap.size := (Array.getElem?_eq_some_iff.1 g1).1
        have hg : w.grownBy (setBlock w1 (E.home id).blk (.mapIter (some (E.home mid).blk) since (arr.push x.born) clock)) (some (E.home id).blk) :=
          ⟨hrow.2.1, hrow.2.2.1, hrow.2.2.2, by simp [setBlock, hrow.1], fun j hj hne => by
            simp only [setBlock, hrow.1]
            rw [Array.getElem?_setIfInBounds_ne (fun e => hne (by rw [e]))]⟩
        have hself : (setBlock w1 (E.home id).blk (.mapIter (some (E.home mid).blk) since (arr.push x.born) clock)).heap[(E.home id).blk]? = some (.mapIter (some (E.home mid).blk) since (arr.push x.born) clock) := by
          simp only [setBlock, hrow.1]
          simp [hlt2]
        have key := h.write (b' := .iter mid since clock (q.2.2 :: seen) false) hi rfl rfl hg (.iter mid since clock (q.2.2 :: seen) false (arr.push x.born) hself g2 hc ⟨fun b => by
          rw [Array.toList_push, List.mem_append, List.mem_singleton, List.mem_cons, ← g4 b, k2, or_comm], by simp [k2]⟩)
        have hrw : ∀ b, E.ro b → (setBlock w1 (E.home id).blk (.mapIter (some (E.home mid).blk) since (arr.push x.born) clock)).heap[b]? = w.heap[b]? := fun b hb => hg.block b (h.rlt b hb) fun e => by
          have := (h.frz id _ hi).2 (Option.some.inj e ▸ hb)
          simp [Blk.frz] at this
        refine hK n _ E _ _ ⟨rfl, .inr ⟨q, hqm, by rw [← k2]; exact y2, rfl⟩⟩ (key.put hd (.tup _ _ rfl fun i c v hc hv => ?_))
        match i with
        | 0 => simp at hc hv; subst hc; subst hv; exact rep_val rfl
        | 1 => simp at hc hv; subst hc; subst hv; rw [k1]; exact keyS_rep (hk q hqm)
        | 2 => simp at hc hv; subst hc; subst hv; exact k3.keep (Env.le.refl E) hrw
        | i + 3 => simp at hc
theorem stepI_entry {o : Oper} {x : Operand} {id mid since last clock : Nat} {seen : List Nat} {es : List (Value × SV × Nat)} {f g : Bool} {q : Value × SV × Nat} (ho : o.op = .entry x) (hx : opd ns s x = some (.ptr id 0 0)) (hi : s.mem id = some (.iter mid since last (q.2.2 :: seen) g)) (hm : s.mem mid = some (.map es clock f))
    (hlast : last = clock) (hq : q ∈ es) (hn : (es.map (·.2.2)).Nodup) (hk : keyOk q.1 = true) :
    StepI P r ns n s o fun n' s' => n' = n ∧ s' = { s with slots := setSlot s.slots o.dst (.tup [keyS q.1, q.2.1]) } := by
  intro W0 R0 B E a w hin h hd K Q hK
  refine oper_in (fun c e => by rw [ho] at e; cases e) ?_
  obtain ⟨u, hu⟩ : ∃ u, a.eval x = u := ⟨_, rfl⟩
  have hr := h.opd hx
  rw [hu] at hr
  have hp : u = .pointer (some ⟨(E.home id).blk, 0, none⟩) := by
    cases hr with | ptr _ _ _ hd => simp
  have Hi := h.mem id _ hi
  have Hm := h.mem mid _ hm
  cases Hi with
  | iter _ _ _ _ _ arr g1 g2 g3 g4 =>
    cases Hm with
    | map _ _ _ ents h1 h2 h3 =>
      have hb : arr.back? = some q.2.2 := g4.2
      subst hlast
      obtain ⟨i, hi2⟩ := List.getElem?_of_mem hq
      have hlt : i < es.length := (List.getElem?_eq_some_iff.1 hi2).1
      have he : ents[i]? = some (ents[i]'(by omega)) := Array.getElem?_eq_getElem (by omega)
      obtain ⟨k1, k2, k3⟩ := h3 i q _ hi2 he
      have hborn : ents.toList.map (·.born) = es.map (·.2.2) := by
        apply List.ext_getElem?
        intro j
        simp only [List.getElem?_map, Array.getElem?_toList]
        by_cases hj : j < es.length
        · rw [List.getElem?_eq_getElem hj, Array.getElem?_eq_getElem (show j < ents.size by omega)]
          simp only [Option.map_some]
          rw [(h3 j _ _ (List.getElem?_eq_getElem hj) (Array.getElem?_eq_getElem (show j < ents.size by omega))).2.1]
        · rw [List.getElem?_eq_none (by omega), Array.getElem?_eq_none (by omega)]
          rfl
      have hf : ents.find? (·.born == q.2.2) = some (ents[i]'(by omega)) := by
        rw [← Array.find?_toList, ← k2]
        exact find_born (ents[i]'(by omega)) ents.toList (by rw [hborn]; exact hn) (by simp)
      have hrun : (execOp a.eval o).run P w = .ok (.value (.tuple #[(ents[i]'(by omega)).key, (ents[i]'(by omega)).val])) w := by
        simp only [execOp, ho, hu, hp, Instr.entry, getObj, Sem.run_bind, Sem.run, g1, h1, Result.andThen, hb, bne_self_eq_false, Bool.false_eq_true, if_false, hf]
        rfl
      unfold Oper.wp
      rw [hrun]
      refine hK n _ E _ w ⟨rfl, rfl⟩ (h.put hd (.tup _ _ rfl fun j c v hc hv => ?_))
      match j with
      | 0 => simp at hc hv; subst hc; subst hv; rw [k1]; exact keyS_rep hk
      | 1 => simp at hc hv; subst hc; subst hv; exact k3
      | j + 2 => simp at hc
theorem ExecI.entry {ops : Array Oper} {o : Oper} {l : List Oper} {Q : Nat → St → Prop} {x : Operand} {id mid since last clock : Nat} {seen : List Nat} {es : List (Value × SV × Nat)} {f g : Bool} (q : Value × SV × Nat) (hg : guardS ops ns s o = some true) (ho : o.op = .entry x) (hx : opd ns s x = some (.ptr id 0 0)) (hi : s.mem id = some (.iter mid since last (q.2.2 :: seen) g)) (hm : s.mem mid = some (.map es clock f))
    (hlast : last = clock) (hq : q ∈ es) (hn : (es.map (·.2.2)).Nodup) (hk : keyOk q.1 = true) (h : ExecI P r T ops ns n l { s with slots := setSlot s.slots o.dst (.tup [keyS q.1, q.2.1]) } Q) : ExecW P r T ops ns n (o :: l) s Q :=
  ExecI.callG hg (by rw [ho]; rfl) (stepI_entry ho hx hi hm hlast hq hn hk) fun n' s' ⟨e1, e2⟩ => by subst e1; subst e2; exact h
theorem ExecI.range {ops : Array Oper} {o : Oper} {l : List Oper} {Q : Nat → St → Prop} {t : TypeId} {x : Operand} {mid clock : Nat} {es : List (Value × SV × Nat)} {f : Bool} {k e : TypeId} (hg : guardS ops ns s o = some true) (ho : o.op = .range t x) (ht : P.underlying t = some (.map k e)) (hx : opd ns s x = some (.mp mid)) (hm : s.mem mid = some (.map es clock f))
    (h : ExecI P r T ops ns (n + 1) l { slots := setSlot s.slots o.dst (.ptr n 0 0), mem := setMem s.mem n (some (.iter mid clock clock [] false)) } Q) : ExecW P r T ops ns n (o :: l) s Q :=
  ExecI.callG hg (by rw [ho]; rfl) (stepI_range ho ht hx hm) fun n' s' ⟨e1, e2⟩ => by subst e1; subst e2; exact h
theorem ExecI.next {ops : Array Oper} {o : Oper} {l : List Oper} {Q : Nat → St → Prop} {x : Operand} {id mid since last clock : Nat} {seen : List Nat} {es : List (Value × SV × Nat)} {f : Bool} (hg : guardS ops ns s o = some true) (ho : o.op = .next x false) (hx : opd ns s x = some (.ptr id 0 0)) (hi : s.mem id = some (.iter mid since last seen false)) (hm : s.mem mid = some (.map es clock f))
    (hlt : ∀ q ∈ es, q.2.2 < since) (hc : since ≤ clock) (hk : ∀ q ∈ es, keyOk q.1 = true)
    (h1 : (∀ q ∈ es, q.2.2 ∈ seen) → ExecI P r T ops ns n l { s with slots := setSlot s.slots o.dst (.tup [.d (.val (.bool false))]) } Q)
    (h2 : ∀ q ∈ es, q.2.2 ∉ seen → ExecI P r T ops ns n l { slots := setSlot s.slots o.dst (.tup [.d (.val (.bool true)), keyS q.1, q.2.1]), mem := setMem s.mem id (some (.iter mid since clock (q.2.2 :: seen) false)) } Q) : ExecW P r T ops ns n (o :: l) s Q :=
  ExecI.callG hg (by rw [ho]; rfl) (stepI_next ho hx hi hm hlt hc hk) fun n' s' ⟨e1, e2⟩ => by
    subst e1
    rcases e2 with ⟨a, rfl⟩ | ⟨q, a, b, rfl⟩
    · exact h1 a
    · exact h2 q a b
end Go.Proofs.Ytdkneonokbakjaa.Eng

namespace Go.Proofs.Ytdkneonokbakjaa.Eng
open Go.RowKit
variable {P : Program} {T : Tab} {r : Option Nat} {ns : Nat}
inductive Kd where
  | off
  | pure (x : SV) (ids : List Nat)
  | exact (y : SV) (n' : Nat) (m' : Mem)
def Kd.res : Kd → SV
  | .off => .tup []
  | .pure x _ => x
  | .exact y _ _ => y
def Kd.mem (k : Kd) (m : Mem) : Mem := match k with
  | .exact _ _ m' => m'
  | _ => m
def Kd.ex : Kd → Bool
  | .exact .. => true
  | _ => false
def Kd.n (k : Kd) (n : Nat) : Nat := match k with
  | .exact _ n' _ => n'
  | _ => n
def PureStep (P : Program) (ns : Nat) (s : St) (o : Oper) (x : SV) : Prop :=
  ∀ (W0 : Fix) (R0 D : Nat → Prop) (E : Env) (a : Act) (w : World), Sim W0 R0 ns D s E a w → ∃ v, (execOp a.eval o).run P w = .ok (.value v) w ∧ Rep E w x v
theorem PureStep.wp {s : St} {o : Oper} {x : SV} (h : PureStep P ns s o x) {W0 : Fix} {R0 D : Nat → Prop} {E : Env} {a : Act} {w : World} (hs : Sim W0 R0 ns D s E a w) (hd : ∀ t, o.dst = some t → t < ns) {K : Act → World → Prop} {Q : Exit → Act → World → Prop}
    (hK : ∀ a', Sim W0 R0 ns D ⟨setSlot s.slots o.dst x, s.mem⟩ E a' w → K a' w) : o.wp P a w K Q := by
  obtain ⟨v, h1, h2⟩ := h W0 R0 D E a w hs
  unfold Oper.wp
  rw [h1]
  exact hK _ (hs.put hd h2)
def ROStep (P : Program) (r : Option Nat) (ns : Nat) (s : St) (o : Oper) (x : SV) : Prop := ∀ N, StepI P r ns N s o fun n2 s2 => n2 = N ∧ s2 = ⟨setSlot s.slots o.dst x, s.mem⟩
theorem PureStep.ro {s : St} {o : Oper} {x : SV} (hdf : ∀ c, o.op ≠ .defer c) (h : PureStep P ns s o x) : ROStep P r ns s o x := fun N W0 R0 B E a w hi hs hd K Q hK =>
  oper_in hdf (h.wp hs hd fun a' hs' => hK N _ E a' w ⟨rfl, rfl⟩ hs')
structure Draw (P : Program) (r : Option Nat) (ns : Nat) (l : List Oper) (st : Nat → St) (N : Nat → Nat) (kd : Nat → Kd) : Prop where
  slots : ∀ k o, l[k]? = some o → (st (k + 1)).slots = setSlot (st k).slots o.dst (kd k).res
  mem : ∀ k, k < l.length → (st (k + 1)).mem = (kd k).mem (st k).mem
  names : ∀ k, k < l.length → N (k + 1) = (kd k).n (N k) ∧ N k ≤ N (k + 1)
  off : ∀ k o, l[k]? = some o → kd k = .off → guardS l.toArray ns (st k) o = some false
  pure : ∀ k o x ids, l[k]? = some o → kd k = .pure x ids → guardS l.toArray ns (st k) o = some true ∧
    ∀ s', (∀ t ∈ slotsOf o.op, s'.slots t = (st k).slots t) → (∀ i ∈ ids, s'.mem i = (st k).mem i) → ROStep P r ns s' o x
  exact : ∀ k o y n' m', l[k]? = some o → kd k = .exact y n' m' → guardS l.toArray ns (st k) o = some true ∧
    ∀ s', (∀ t ∈ slotsOf o.op, s'.slots t = (st k).slots t) → s'.mem = (st k).mem → StepI P r ns (N k) s' o fun n2 s2 => n2 = n' ∧ s2 = ⟨setSlot s'.slots o.dst y, m'⟩
  cslot : ∀ i k oi ok t, i < k → l[i]? = some oi → l[k]? = some ok → ((oi.dst = some t ∧ (ok.dst = some t ∨ t ∈ guardSlot l.toArray ok ∨ t ∈ slotsOf ok.op)) ∨ (ok.dst = some t ∧ (t ∈ guardSlot l.toArray oi ∨ t ∈ slotsOf oi.op))) → Anc l i k
  cex : ∀ i k, i < k → k < l.length → (kd i).ex = true → (kd k).ex = true → Anc l i k
  cmem1 : ∀ i k x ids, i < k → k < l.length → (kd i).ex = true → kd k = .pure x ids → Anc l i k ∨ ∀ j ∈ ids, (st (i + 1)).mem j = (st i).mem j
  cmem2 : ∀ i k x ids, i < k → k < l.length → kd i = .pure x ids → (kd k).ex = true → Anc l i k ∨ ∀ j ∈ ids, (st (k + 1)).mem j = (st k).mem j
def slF (l : List Oper) (res : Nat → SV) (f0 : Nat → SV) (L : Nat → Bool) : Nat → Nat → SV
  | 0 => f0
  | k + 1 => match l[k]? with
    | some o => if L k = true then setSlot (slF l res f0 L k) o.dst (res k) else slF l res f0 L k
    | none => slF l res f0 L k
theorem setSlot_at (f : Nat → SV) (d : Option Nat) (x : SV) (t : Nat) : setSlot f d x t = if d = some t then x else f t := by
  cases d with
  | none => simp [setSlot]
  | some d => simp [setSlot, eq_comm]
section
variable {l : List Oper} {res : Nat → SV} {f0 : Nat → SV}
theorem slF_at {L M : Nat → Bool} {t : Nat} (h : ∀ k o, l[k]? = some o → o.dst = some t → L k = M k) : ∀ k, slF l res f0 L k t = slF l res f0 M k t
  | 0 => rfl
  | k + 1 => by
    simp only [slF]
    cases ho : l[k]? with
    | none => exact slF_at h k
    | some o =>
      simp only
      have ih := slF_at h k
      by_cases hd : o.dst = some t
      · rw [h k o ho hd]
        split
        · rw [setSlot_at, setSlot_at, if_pos hd, if_pos hd]
        · exact ih
      · have e : ∀ f : Nat → SV, setSlot f o.dst (res k) t = f t := fun f => by rw [setSlot_at, if_neg hd]
        split
        · split
          · rw [e, e]; exact ih
          · rw [e]; exact ih
        · split
          · rw [e]; exact ih
          · exact ih
end
theorem draw_any {l : List Oper} (hB : backB l.toArray = true) {st : Nat → St} {N : Nat → Nat} {kd : Nat → Kd} (H : Draw P r ns l st N kd) {W0 : Fix} {R0 : Nat → Prop} {B : Nat} (hi : InAct r W0 R0 B)
    {E : Env} {a : Act} {w : World} (hs : Sim W0 R0 ns (· < N 0) (st 0) E a w) {Q : Exit → Act → World → Prop} (hQ : ∀ E' a' w', Sim W0 R0 ns (· < N l.length) (st l.length) E' a' w' → Q .normal a' w') :
    wpAnyIn (fen (rOf W0 r)) 0 P .any l.toArray Q l.toArray.size (Array.replicate l.toArray.size false) a { w with drawn := w.drawn + 1 } := by
  have mono : ∀ i k, i ≤ k → k ≤ l.length → N i ≤ N k := by
    intro i k hik
    induction k with
    | zero => intro _; (obtain rfl : i = 0 := (by omega)); exact Nat.le_refl _
    | succ k ih =>
      intro hk
      rcases Nat.lt_or_ge i (k + 1) with h | h
      · exact Nat.le_trans (ih (by omega) (by omega)) (H.names k (by omega)).2
      · obtain rfl : i = k + 1 := by omega
        exact Nat.le_refl _
  have nsame : ∀ i k, i ≤ k → k ≤ l.length → (∀ j, i ≤ j → j < k → (kd j).ex = false) → N k = N i := by
    intro i k hik
    induction k with
    | zero => intro _ _; (obtain rfl : i = 0 := (by omega)); rfl
    | succ k ih =>
      intro hk hx
      rcases Nat.lt_or_ge i (k + 1) with h | h
      · rw [(H.names k (by omega)).1, ← ih (by omega) (by omega) fun j h1 h2 => hx j h1 (by omega)]
        have := hx k (by omega) (by omega)
        cases hk : kd k with
        | exact => rw [hk] at this; cases this
        | off => rfl
        | pure => rfl
      · obtain rfl : i = k + 1 := by omega
        rfl
  have msame : ∀ i k, i ≤ k → k ≤ l.length → ∀ x, (∀ j, i ≤ j → j < k → (kd j).ex = true → (st (j + 1)).mem x = (st j).mem x) → (st k).mem x = (st i).mem x := by
    intro i k hik
    induction k with
    | zero => intro _ x _; (obtain rfl : i = 0 := (by omega)); rfl
    | succ k ih =>
      intro hk x hx
      rcases Nat.lt_or_ge i (k + 1) with h | h
      · rw [← ih (by omega) (by omega) x fun j h1 h2 => hx j h1 (by omega)]
        cases hkd : kd k with
        | exact => exact hx k (by omega) (by omega) (by rw [hkd]; rfl)
        | off => rw [H.mem k (by omega), hkd]; rfl
        | pure => rw [H.mem k (by omega), hkd]; rfl
      · obtain rfl : i = k + 1 := by omega
        rfl
  let res : Nat → SV := fun k => (kd k).res
  have text : ∀ (k j : Nat), j ≤ k → k ≤ l.length → slF l res (st 0).slots (fun i => decide (i < k)) j = (st j).slots := by
    intro k j
    induction j with
    | zero => intro _ _; rfl
    | succ j ih =>
      intro hj hk
      have hjl : l[j]? = some l[j] := List.getElem?_eq_getElem (by omega)
      simp only [slF, hjl]
      rw [if_pos (by simp; omega), ih (by omega) hk]
      exact (H.slots j _ hjl).symm
  have textE : ∀ (k : Nat), k ≤ l.length → ∀ j, k ≤ j → slF l res (st 0).slots (fun i => decide (i < k)) j = (st k).slots := by
    intro k hk j
    induction j with
    | zero =>
      intro hj
      obtain rfl : k = 0 := by omega
      rfl
    | succ j ih =>
      intro hj
      rcases Nat.lt_or_ge j k with h | h
      · obtain rfl : k = j + 1 := by omega
        exact text (j + 1) (j + 1) (Nat.le_refl _) hk
      · simp only [slF]
        cases l[j]? with
        | none => exact ih h
        | some o => simp only; rw [if_neg (by simp; omega)]; exact ih h
  let Closed (L : Nat → Bool) : Prop := ∀ i k, Anc l i k → k < l.length → L k = true → L i = true
  -- what operation k sees of the slots
  have see : ∀ (L : Nat → Bool) (k : Nat) (o : Oper), l[k]? = some o → L k = false → Closed L → (∀ i, Anc l i k → L i = true) → ∀ t, (o.dst = some t ∨ t ∈ guardSlot l.toArray o ∨ t ∈ slotsOf o.op) →
      ∀ i oi, l[i]? = some oi → oi.dst = some t → i ≠ k → L i = decide (i < k) := by
    intro L k o hk hLk hC hA t hx i oi hi hw hne
    rcases Nat.lt_or_gt_of_ne hne with h | h
    · rw [decide_eq_true h]
      exact hA i (H.cslot i k oi o t h hi hk (.inl ⟨hw, hx⟩))
    · rw [decide_eq_false (by omega)]
      have hanc : Anc l k i := H.cslot k i o oi t h hk hi (by
        rcases hx with hx | hx
        · exact .inl ⟨hx, .inl hw⟩
        · exact .inr ⟨hw, hx⟩)
      cases hLi : L i with
      | false => rfl
      | true =>
        have := hC k i hanc (List.getElem?_eq_some_iff.1 hi).1 hLi
        rw [hLk] at this
        cases this
  have see_slot : ∀ (L : Nat → Bool) (k : Nat) (o : Oper), l[k]? = some o → L k = false → Closed L → (∀ i, Anc l i k → L i = true) → ∀ t, (t ∈ guardSlot l.toArray o ∨ t ∈ slotsOf o.op) → slF l res (st 0).slots L l.length t = (st k).slots t := by
    intro L k o hk hLk hC hA t hx
    have hkl := (List.getElem?_eq_some_iff.1 hk).1
    rw [← textE k (by omega) l.length (by omega)]
    refine slF_at (fun i oi hi hd => ?_) _
    by_cases e : i = k
    · subst e; rw [hLk]; simp
    · exact see L k o hk hLk hC hA t (.inr hx) i oi hi hd e
  have meet : ∀ (L L' : Nat → Bool) (k : Nat) (o : Oper), l[k]? = some o → L k = false → Closed L → (∀ i, Anc l i k → L i = true) → (∀ i, L' i = if i = k then true else L i) → slF l res (st 0).slots L' l.length = setSlot (slF l res (st 0).slots L l.length) o.dst (res k) := by
    intro L L' k o hk hLk hC hA hL'
    have hkl := (List.getElem?_eq_some_iff.1 hk).1
    funext t
    rw [setSlot_at]
    by_cases hd : o.dst = some t
    · rw [if_pos hd, slF_at (M := fun i => decide (i < k + 1)) (fun i oi hi hdi => ?_) _, textE (k + 1) (by omega) l.length (by omega), H.slots k o hk, setSlot_at, if_pos hd]
      rw [hL']
      by_cases e : i = k
      · subst e; simp
      · rw [if_neg e, see L k o hk hLk hC hA t (.inl hd) i oi hi hdi e]
        by_cases h : i < k
        · rw [decide_eq_true h, decide_eq_true (by omega)]
        · rw [decide_eq_false h, decide_eq_false (by omega)]
    · rw [if_neg hd]
      refine slF_at (fun i oi hi hdi => ?_) _
      rw [hL', if_neg]
      rintro rfl
      rw [hk] at hi
      cases hi
      exact hd hdi
  -- p: behind the last operation met that turns memory
  have key : ∀ (fuel : Nat) (listed : Array Bool) (p : Nat) (E : Env) (a : Act) (w : World), listed.size = l.toArray.size → leftOf l.toArray.size listed ≤ fuel → Closed (fun i => listed.getD i true) → p ≤ l.length →
      (∀ e, e < l.length → (kd e).ex = true → (listed.getD e true = true ↔ e < p)) →
      Sim W0 R0 ns (· < N p) ⟨slF l res (st 0).slots (fun i => listed.getD i true) l.length, (st p).mem⟩ E a w → wpAnyIn (fen (rOf W0 r)) 0 P .any l.toArray Q fuel listed a w := by
    have fin : ∀ (listed : Array Bool) (p : Nat) (E : Env) (a : Act) (w : World), listed.size = l.toArray.size → p ≤ l.length → (∀ e, e < l.length → (kd e).ex = true → (listed.getD e true = true ↔ e < p)) →
        Sim W0 R0 ns (· < N p) ⟨slF l res (st 0).slots (fun i => listed.getD i true) l.length, (st p).mem⟩ E a w → Region.ready .any l.toArray listed = [] → Q .normal a w := by
      intro listed p E a w hsz hp hpx hsim hr
      have hall := all_listed hsz hB hr
      have hne : ∀ j, p ≤ j → j < l.length → (kd j).ex = false := fun j h1 h2 => by
        cases hx : (kd j).ex with
        | false => rfl
        | true => have := (hpx j h2 hx).1 (hall j (by simpa using h2)); omega
      have e : slF l res (st 0).slots (fun i => listed.getD i true) l.length = (st l.length).slots := by
        rw [← text l.length l.length (Nat.le_refl _) (Nat.le_refl _)]
        funext t
        refine slF_at (fun i oi hi _ => ?_) _
        have hil := (List.getElem?_eq_some_iff.1 hi).1
        rw [hall i (by simpa using hil), decide_eq_true hil]
      have e2 : (st p).mem = (st l.length).mem := by
        funext x
        exact (msame p l.length hp (Nat.le_refl _) x fun j h1 h2 h3 => by rw [hne j h1 h2] at h3; cases h3).symm
      rw [e, e2, ← nsame p l.length hp (Nat.le_refl _) hne] at hsim
      exact hQ E a w hsim
    intro fuel
    induction fuel with
    | zero =>
      intro listed p E a w hsz hl hC hp hpx hsim
      have hr : Region.ready .any l.toArray listed = [] := by
        rw [List.eq_nil_iff_forall_not_mem]
        intro i hi
        have h1 := (mem_ready.1 hi).1
        have h2 : i ∈ (List.range l.toArray.size).filter fun j => !listed.getD j true := by
          rw [List.mem_filter]
          refine ⟨List.mem_range.2 ?_, by rw [h1]; rfl⟩
          obtain ⟨o, ho, _⟩ := (mem_ready.1 hi).2
          exact (Array.getElem?_eq_some_iff.1 ho).1
        unfold leftOf at hl
        rw [List.length_eq_zero_iff.1 (Nat.le_zero.1 hl)] at h2
        cases h2
      exact ⟨hr, fin listed p E a w hsz hp hpx hsim hr⟩
    | succ fuel ih =>
      intro listed p E a w hsz hl hC hp hpx hsim
      refine ⟨fun hr => fin listed p E a w hsz hp hpx hsim hr, fun k hk => ?_⟩
      obtain ⟨hun, o, ho, hdep⟩ := mem_ready.1 hk
      have hkl : k < l.length := by have := (Array.getElem?_eq_some_iff.1 ho).1; simpa using this
      have hlk : l[k]? = some o := by simpa using ho
      have hA : ∀ i, Anc l i k → listed.getD i true = true := by
        intro i hi
        cases hi with
        | one h1 h2 h3 =>
          rw [hlk] at h1
          cases h1
          have h4 := hdep _ (by simpa using h2) h3
          rename_i e
          rcases Nat.lt_or_ge e.on listed.size with h5 | h5
          · simp [h5] at h4 ⊢; exact h4
          · simp [Array.getElem?_eq_none h5] at h4
        | more h1 h2 h3 h4 =>
          rw [hlk] at h1
          cases h1
          rename_i e
          have h5 := hdep _ (by simpa using h2) h3
          rcases Nat.lt_or_ge e.on listed.size with h6 | h6
          · refine hC i e.on h4 (by simpa [hsz] using h6) ?_
            simp [h6] at h5 ⊢; exact h5
          · simp [Array.getElem?_eq_none h6] at h5
      have hL' : ∀ i, (listed.setIfInBounds k true).getD i true = if i = k then true else listed.getD i true := fun i => by
        by_cases e : i = k
        · subst e; rw [if_pos rfl]; simp [hsz, hkl]
        · rw [if_neg e]; exact getD_set_ne true (Ne.symm e)
      have hmeet := meet (fun i => listed.getD i true) (fun i => (listed.setIfInBounds k true).getD i true) k o hlk hun hC hA hL'
      have hC' : Closed (fun i => (listed.setIfInBounds k true).getD i true) := by
        intro i j hij hj hLj
        have hLj := (hL' j).symm.trans hLj
        refine (hL' i).trans ?_
        split
        · rfl
        · rename_i hne
          by_cases e : j = k
          · subst e; exact hA i hij
          · rw [if_neg e] at hLj; exact hC i j hij hj hLj
      have hseeS : ∀ t, (t ∈ guardSlot l.toArray o ∨ t ∈ slotsOf o.op) → slF l res (st 0).slots (fun i => listed.getD i true) l.length t = (st k).slots t := see_slot _ k o hlk hun hC hA
      have hgs : ∀ b, guardS l.toArray ns (st k) o = some b → guardS l.toArray ns ⟨slF l res (st 0).slots (fun i => listed.getD i true) l.length, (st p).mem⟩ o = some b := by
        intro b hb
        unfold guardS at hb ⊢
        have hdo : dstOk ns o.dst = true := by by_cases hd : dstOk ns o.dst = true; exact hd; rw [if_neg hd] at hb; cases hb
        rw [if_pos hdo] at hb ⊢
        cases hgd : o.guard with
        | none => rw [hgd] at hb; exact hb
        | some p =>
          obtain ⟨j, want⟩ := p
          rw [hgd] at hb
          simp only at hb ⊢
          cases hj : (l.toArray[j]?).bind (·.dst) with
          | none => rw [hj] at hb; cases hb
          | some t =>
            rw [hj] at hb
            simp only at hb ⊢
            rw [hseeS t (.inl ?_)]
            · exact hb
            · simp only [guardSlot, hgd, hj]
              simp
      have hlf := leftOf_set hsz hun fuel hl
      -- not met: those of k's kind that keep memory
      have stay : (kd k).ex = false → ∀ e, e < l.length → (kd e).ex = true → ((listed.setIfInBounds k true).getD e true = true ↔ e < p) := fun hx e he1 he2 => by
        rw [hL' e, if_neg]
        · exact hpx e he1 he2
        · rintro rfl; rw [hx] at he2; cases he2
      unfold wpOpIn
      rw [show l.toArray[k]? = some o from ho]
      simp only
      cases hkd : kd k with
      | off =>
        have hg := H.off k o hlk hkd
        rw [guard_ok hsim (hgs _ hg), if_neg (by simp)]
        refine ⟨fun f _ => fen_fn _ f, ih _ p E _ w (by simpa using hsz) hlf hC' hp (stay (by rw [hkd]; rfl)) ?_⟩
        rw [hmeet]
        have := hsim.put (guardS_dst hg) rep_no
        simpa [res, hkd, Kd.res] using this
      | pure x ids =>
        obtain ⟨hg, hst⟩ := H.pure k o x ids hlk hkd
        rw [guard_ok hsim (hgs _ hg), if_pos rfl]
        have hmem : ∀ i ∈ ids, (st p).mem i = (st k).mem i := fun i hi => by
          rcases Nat.le_total p k with h | h
          · refine (msame p k h (by omega) i fun j h1 h2 h3 => ?_).symm
            rcases H.cmem1 j k x ids h2 hkl h3 hkd with h4 | h4
            · have := (hpx j (by omega) h3).1 (hA j h4); omega
            · exact h4 i hi
          · refine msame k p h hp i fun j h1 h2 h3 => ?_
            rcases Nat.lt_or_ge k j with h5 | h5
            · rcases H.cmem2 k j x ids h5 (by omega) hkd h3 with h4 | h4
              · have h6 : listed.getD k true = true := hC k j h4 (by omega) ((hpx j (by omega) h3).2 h2)
                rw [hun] at h6; cases h6
              · exact h4 i hi
            · obtain rfl : j = k := by omega
              rw [hkd] at h3; cases h3
        refine hst ⟨slF l res (st 0).slots (fun i => listed.getD i true) l.length, (st p).mem⟩ (fun t ht => hseeS t (.inr ht)) hmem (N p) W0 R0 B E a w hi hsim (guardS_dst hg) _ Q fun n2 s2 E' a' w' hG hs' => ?_
        obtain ⟨rfl, rfl⟩ := hG
        refine ih _ p E' a' w' (by simpa using hsz) hlf hC' hp (stay (by rw [hkd]; rfl)) ?_
        rw [hmeet]
        simpa [res, hkd, Kd.res] using hs'
      | exact y n' m' =>
        obtain ⟨hg, hst⟩ := H.exact k o y n' m' hlk hkd
        rw [guard_ok hsim (hgs _ hg), if_pos rfl]
        have hex : (kd k).ex = true := by rw [hkd]; rfl
        have hpk : p ≤ k := by
          rcases Nat.lt_or_ge k p with h | h
          · have := (hpx k hkl hex).2 h; rw [hun] at this; cases this
          · exact h
        have hno : ∀ j, p ≤ j → j < k → (kd j).ex = false := fun j h1 h2 => by
          cases hx : (kd j).ex with
          | false => rfl
          | true => have := (hpx j (by omega) hx).1 (hA j (H.cex j k h2 hkl hx hex)); omega
        have hm : (st p).mem = (st k).mem := by
          funext x
          exact (msame p k hpk (by omega) x fun j h1 h2 h3 => by rw [hno j h1 h2] at h3; cases h3).symm
        have hsim2 := hsim
        rw [← nsame p k hpk (by omega) hno] at hsim2
        refine hst ⟨slF l res (st 0).slots (fun i => listed.getD i true) l.length, (st p).mem⟩ (fun t ht => hseeS t (.inr ht)) hm W0 R0 B E a w hi hsim2 (guardS_dst hg) _ Q fun n2 s2 E' a' w' hG hs' => ?_
        obtain ⟨rfl, rfl⟩ := hG
        refine ih _ (k + 1) E' a' w' (by simpa using hsz) hlf hC' (by omega) (fun e he1 he2 => ?_) ?_
        · rw [hL' e]
          by_cases e1 : e = k
          · subst e1; simp
          · rw [if_neg e1]
            refine ⟨fun h => ?_, fun h => (hpx e he1 he2).2 ?_⟩
            · have := (hpx e he1 he2).1 h; omega
            · rcases Nat.lt_or_ge e p with h2 | h2
              · exact h2
              · rw [hno e h2 (by omega)] at he2; cases he2
        · rw [hmeet, H.mem k hkl, (H.names k hkl).1, hkd]
          simpa [res, hkd, Kd.res, Kd.mem, Kd.n] using hs'
  have hL0 : ∀ i, i < l.length → (Array.replicate l.toArray.size false).getD i true = false := fun i hi => by simp [hi]
  refine key l.toArray.size _ 0 E a _ (by simp) (by unfold leftOf; exact Nat.le_trans (List.length_filter_le _ _) (by simp)) (fun i k hik hk hLk => by have hLk := (hL0 k hk).symm.trans hLk; cases hLk) (Nat.zero_le _) (fun e he _ => by rw [hL0 e he]; simp) ?_
  have e0 : slF l res (st 0).slots (fun i => (Array.replicate l.toArray.size false).getD i true) l.length = (st 0).slots := by
    refine Eq.trans ?_ (textE 0 (Nat.zero_le _) l.length (Nat.zero_le _))
    funext t
    exact slF_at (fun i oi hi _ => by rw [hL0 i (List.getElem?_eq_some_iff.1 hi).1]; rfl) _
  rw [e0]
  exact hs.drew
theorem AWi.drawsI (hm : P.follows .mixedOrders = true) {id : Nat} {l : List Oper} (hB : backB l.toArray = true) {st : Nat → St} {N : Nat → Nat} {kd : Nat → Kd} (H : Draw P r ns l st N kd) {Q : Post} (h : Q .normal (N l.length) (st l.length)) :
    AWi P r ns (.region id l.toArray true) (N 0) (st 0) Q := fun W0 R0 B E a w hi hs =>
  wpIn_region_any hm (draw_any hB H hi hs fun E' a' w' hs' => ⟨_, _, E', W0, Ext.refl _, hi, hs', h⟩)
end Go.Proofs.Ytdkneonokbakjaa.Eng

noncomputable section
namespace Go.Proofs.Ytdkneonokbakjaa.Eng
open Go.RowKit
inductive Tr (α : Type) where
  | lf
  | nd (v : Option α) (l r : Tr α)
theorem rec_cond {β : Type} (c : Bool) (a b : β) : @Bool.rec (fun _ => β) a b c = bif c then b else a := by cases c <;> rfl
theorem beq_nat {a b : Nat} : Nat.beq a b = decide (a = b) := by rw [Bool.eq_iff_iff, decide_eq_true_iff, Nat.beq_eq]
inductive Pa where
  | e
  | l (p : Pa)
  | r (p : Pa)
  deriving DecidableEq
def Pa.upTo (f : Nat) : Nat → Pa :=
  @Nat.rec (fun _ => Nat → Pa) (fun _ => .e) (fun _ ih i => @Bool.rec (fun _ => Pa) (@Bool.rec (fun _ => Pa) (.r (ih (Nat.sub (Nat.div i 2) 1))) (.l (ih (Nat.div i 2))) (Nat.beq (Nat.mod i 2) 1)) .e (Nat.beq i 0)) f
def Pa.of (i : Nat) : Pa := Pa.upTo i i
theorem Pa.upTo_zero {i : Nat} : Pa.upTo 0 i = .e := rfl
theorem Pa.upTo_succ {f i : Nat} : Pa.upTo (f + 1) i = if i = 0 then .e else if i % 2 = 1 then .l (Pa.upTo f (i / 2)) else .r (Pa.upTo f (i / 2 - 1)) := by
  have h : Pa.upTo (f + 1) i = @Bool.rec (fun _ => Pa) (@Bool.rec (fun _ => Pa) (.r (Pa.upTo f (Nat.sub (Nat.div i 2) 1))) (.l (Pa.upTo f (Nat.div i 2))) (Nat.beq (Nat.mod i 2) 1)) .e (Nat.beq i 0) := rfl
  rw [h, rec_cond, rec_cond]
  simp only [beq_nat, cond_eq_ite, decide_eq_true_eq]
  rfl
theorem Pa.upTo_more : ∀ (f g i : Nat), i ≤ f → i ≤ g → Pa.upTo f i = Pa.upTo g i
  | 0, 0, i, _, _ => rfl
  | 0, g + 1, i, h, _ => by rw [Pa.upTo_succ, if_pos (by omega), Pa.upTo_zero]
  | f + 1, 0, i, _, h => by rw [Pa.upTo_succ, if_pos (by omega), Pa.upTo_zero]
  | f + 1, g + 1, i, h1, h2 => by
    rw [Pa.upTo_succ, Pa.upTo_succ]
    split
    · rfl
    · split
      · rw [Pa.upTo_more f g (i / 2) (by omega) (by omega)]
      · rw [Pa.upTo_more f g (i / 2 - 1) (by omega) (by omega)]
theorem Pa.of_eq (i : Nat) : Pa.of i = if i = 0 then .e else if i % 2 = 1 then .l (Pa.of (i / 2)) else .r (Pa.of (i / 2 - 1)) := by
  unfold Pa.of
  match i with
  | 0 => rfl
  | k + 1 =>
    rw [Pa.upTo_succ, Pa.upTo_more k ((k + 1) / 2) ((k + 1) / 2) (by omega) (by omega), Pa.upTo_more k ((k + 1) / 2 - 1) ((k + 1) / 2 - 1) (by omega) (by omega)]
def Tr.at_ {α : Type} (t : Tr α) : Pa → Option α :=
  @Tr.rec α (fun _ => Pa → Option α) (fun _ => none) (fun v _ _ gl gr p => @Pa.rec (fun _ => Option α) v (fun p _ => gl p) (fun p _ => gr p) p) t
def Tr.get {α : Type} (t : Tr α) (i : Nat) : Option α := Tr.at_ t (Pa.of i)
theorem Tr.get_lf {α : Type} {i : Nat} : (Tr.lf : Tr α).get i = none := rfl
theorem Tr.get_nd {α : Type} {v : Option α} {l r : Tr α} {i : Nat} : (Tr.nd v l r).get i = if i = 0 then v else if i % 2 = 1 then l.get (i / 2) else r.get (i / 2 - 1) := by
  unfold Tr.get
  rw [Pa.of_eq]
  split
  · rfl
  · split <;> rfl
def Tr.one {α : Type} (v : Option α) (p : Pa) : Tr α :=
  @Pa.rec (fun _ => Tr α) (.nd v .lf .lf) (fun _ ih => .nd none ih .lf) (fun _ ih => .nd none .lf ih) p
def Tr.to_ {α : Type} (v : Option α) (t : Tr α) : Pa → Tr α :=
  @Tr.rec α (fun _ => Pa → Tr α) (Tr.one v) (fun u l r pl pr p => @Pa.rec (fun _ => Tr α) (.nd v l r) (fun p _ => .nd u (pl p) r) (fun p _ => .nd u l (pr p)) p) t
def Tr.put {α : Type} (v : Option α) (_f : Nat) (t : Tr α) (i : Nat) : Tr α := Tr.to_ v t (Pa.of i)
theorem Tr.at_one {α : Type} {v : Option α} : ∀ (p q : Pa), (Tr.one v p).at_ q = if q = p then v else none
  | .e, .e => by rw [if_pos rfl]; rfl
  | .e, .l q => by rw [if_neg (by simp)]; rfl
  | .e, .r q => by rw [if_neg (by simp)]; rfl
  | .l p, .e => by rw [if_neg (by simp)]; rfl
  | .l p, .l q => by
    show (Tr.one v p).at_ q = _
    rw [Tr.at_one p q]
    simp only [Pa.l.injEq]
  | .l p, .r q => by rw [if_neg (by simp)]; rfl
  | .r p, .e => by rw [if_neg (by simp)]; rfl
  | .r p, .l q => by rw [if_neg (by simp)]; rfl
  | .r p, .r q => by
    show (Tr.one v p).at_ q = _
    rw [Tr.at_one p q]
    simp only [Pa.r.injEq]
theorem Tr.at_to {α : Type} {v : Option α} : ∀ (t : Tr α) (p q : Pa), (t.to_ v p).at_ q = if q = p then v else t.at_ q
  | .lf, p, q => Tr.at_one p q
  | .nd u l r, .e, .e => by rw [if_pos rfl]; rfl
  | .nd u l r, .e, .l q => by rw [if_neg (by simp)]; rfl
  | .nd u l r, .e, .r q => by rw [if_neg (by simp)]; rfl
  | .nd u l r, .l p, .e => by rw [if_neg (by simp)]; rfl
  | .nd u l r, .l p, .l q => by
    show (l.to_ v p).at_ q = if _ then _ else l.at_ q
    rw [Tr.at_to l p q]
    simp only [Pa.l.injEq]
  | .nd u l r, .l p, .r q => by rw [if_neg (by simp)]; rfl
  | .nd u l r, .r p, .e => by rw [if_neg (by simp)]; rfl
  | .nd u l r, .r p, .l q => by rw [if_neg (by simp)]; rfl
  | .nd u l r, .r p, .r q => by
    show (r.to_ v p).at_ q = if _ then _ else r.at_ q
    rw [Tr.at_to r p q]
    simp only [Pa.r.injEq]
theorem Pa.inj : ∀ (j i : Nat), Pa.of j = Pa.of i → j = i := by
  intro j
  induction j using Nat.strongRecOn with
  | ind j ih =>
    intro i h
    rw [Pa.of_eq j, Pa.of_eq i] at h
    by_cases hj : j = 0 <;> by_cases hi : i = 0
    · omega
    · rw [if_pos hj, if_neg hi] at h; split at h <;> cases h
    · rw [if_neg hj, if_pos hi] at h; split at h <;> cases h
    · rw [if_neg hj, if_neg hi] at h
      by_cases h1 : j % 2 = 1 <;> by_cases h2 : i % 2 = 1
      · rw [if_pos h1, if_pos h2, Pa.l.injEq] at h
        have := ih (j / 2) (by omega) _ h
        omega
      · rw [if_pos h1, if_neg h2] at h; cases h
      · rw [if_neg h1, if_pos h2] at h; cases h
      · rw [if_neg h1, if_neg h2, Pa.r.injEq] at h
        have := ih (j / 2 - 1) (by omega) _ h
        omega
theorem Tr.get_put {α : Type} {v : Option α} (f : Nat) (t : Tr α) (i : Nat) (_h : i < 2 ^ f) (j : Nat) : (t.put v f i).get j = if j = i then v else t.get j := by
  unfold Tr.put Tr.get
  rw [Tr.at_to]
  by_cases h : j = i
  · rw [h, if_pos rfl, if_pos rfl]
  · rw [if_neg fun e => h (Pa.inj j i e), if_neg h]
abbrev deep : Nat := 24
def getN : List SV → Nat → Option SV
  | [], _ => none
  | x :: l, i => match i with
    | 0 => some x
    | j + 1 => getN l j
theorem getN_eq : ∀ (l : List SV) (i : Nat), getN l i = l[i]?
  | [], i => rfl
  | x :: l, 0 => rfl
  | x :: l, i + 1 => getN_eq l i
def upN : Nat → Nat → List Nat
  | 0, _ => []
  | n + 1, j => j :: upN n (j + 1)
theorem upN_len : ∀ (n j : Nat), (upN n j).length = n
  | 0, _ => rfl
  | n + 1, j => by simp [upN, upN_len n]
theorem upN_get : ∀ (n j i : Nat), (upN n j)[i]? = if i < n then some (j + i) else none
  | 0, j, i => by simp [upN]
  | n + 1, j, 0 => by simp [upN]
  | n + 1, j, i + 1 => by
    simp only [upN, List.getElem?_cons_succ, upN_get n (j + 1) i]
    by_cases h : i < n
    · rw [if_pos h, if_pos (by omega)]; congr 1; omega
    · rw [if_neg h, if_neg (by omega)]
def cellAt (d : List SV) (t : Tr SV) (i : Nat) : SV := match t.get i with
  | some x => x
  | none => (getN d (i % d.length)).getD .und
def cellsOf (n : Nat) (d : List SV) (t : Tr SV) (j : Nat) : List SV := (upN n j).map (cellAt d t)
theorem cellsOf_len (n : Nat) (d : List SV) (t : Tr SV) (j : Nat) : (cellsOf n d t j).length = n := by simp [cellsOf, upN_len]
theorem cellsOf_get (n : Nat) (d : List SV) (t : Tr SV) (j i : Nat) : (cellsOf n d t j)[i]? = if i < n then some (cellAt d t (j + i)) else none := by
  simp only [cellsOf, List.getElem?_map, upN_get]
  split <;> rfl
theorem cellsOf_sub {n k j : Nat} (d : List SV) (t : Tr SV) (h : j + k ≤ n) : ((cellsOf n d t 0).drop j).take k = cellsOf k d t j := by
  apply List.ext_getElem?
  intro i
  rw [List.getElem?_take]
  by_cases hi : i < k
  · rw [if_pos hi, List.getElem?_drop, cellsOf_get, cellsOf_get, if_pos (by omega), if_pos hi, Nat.zero_add]
  · rw [if_neg hi, cellsOf_get, if_neg hi]
theorem cellsOf_lf {d : List SV} : cellsOf d.length d .lf 0 = d := by
  apply List.ext_getElem?
  intro i
  rw [cellsOf_get]
  by_cases hi : i < d.length
  · rw [if_pos hi, Nat.zero_add]
    simp [cellAt, Tr.get_lf, getN_eq, hi, Nat.mod_eq_of_lt]
  · rw [if_neg hi, List.getElem?_eq_none (by omega)]
theorem cellsOf_per {d l : List SV} {n : Nat} (hn : l.length = n) (h : ∀ i, i < n → l[i]? = d[i % d.length]?) : cellsOf n d .lf 0 = l := by
  apply List.ext_getElem?
  intro i
  rw [cellsOf_get]
  by_cases hi : i < n
  · rw [if_pos hi, Nat.zero_add]
    have h1 := h i hi
    rw [List.getElem?_eq_getElem (by omega)] at h1
    simp [cellAt, Tr.get_lf, getN_eq, ← h1, List.getElem?_eq_getElem (show i < l.length by omega)]
  · rw [if_neg hi, List.getElem?_eq_none (by omega)]
def keyVal (agg : Bool) (ks : List IntKind) (ns : List Int) : Value := if agg then aggInts ks ns else match ks, ns with
  | k :: _, n :: _ => .int k n
  | _, _ => undef
inductive CB where
  | b (x : Blk)
  | bx (wh : Option Nat) (ty : TypeId) (n : Nat) (d : List SV) (t : Tr SV) (f : Bool)
  | mp (agg : Bool) (kk : List IntKind) (es : List (List Int × SV × Nat)) (clock : Nat)
  | loop (st : LoopState) (pe : Option Code) (ns : Nat) (sl : Tr SV) (ps : Array Tmp) (x y : Code)
def sOf (t : Tr SV) : Nat → SV := fun i => (t.get i).getD .und
def CB.den : CB → Blk
  | .b x => x
  | .bx none ty n d t f => .box ty (cellsOf n d t 0) f
  | .bx (some z) ty n d t f => .part z ty (cellsOf n d t 0) f
  | .mp agg kk es clock => .map (es.map fun q => (keyVal agg kk q.1, q.2)) clock false
  | .loop st pe ns sl ps x y => .loop st pe ns (sOf sl) ps x y false
def mOf (t : Tr CB) : Mem := fun i => (t.get i).map CB.den
structure CS where
  n : Nat
  sl : Tr SV
  mem : Tr CB
def CS.den (s : CS) : St := ⟨sOf s.sl, mOf s.mem⟩
def putT (t : Tr SV) (i : Nat) (x : SV) : Tr SV := t.put (some x) deep i
def putM (t : Tr CB) (i : Nat) (x : Option CB) : Tr CB := t.put x deep i
theorem sOf_put {t : Tr SV} {i : Nat} {x : SV} (h : i < 2 ^ deep) : sOf (putT t i x) = fun k => if k = i then x else sOf t k := by
  funext k
  simp only [sOf, putT, Tr.get_put deep t i h]
  split <;> rfl
theorem mOf_put {t : Tr CB} {i : Nat} {x : Option CB} (h : i < 2 ^ deep) : mOf (putM t i x) = setMem (mOf t) i (x.map CB.den) := by
  funext k
  simp only [mOf, putM, Tr.get_put deep t i h, setMem]
  split <;> rfl
def putCells (t : Tr SV) (j : Nat) : List SV → Tr SV
  | [] => t
  | x :: l => putCells (putT t j x) (j + 1) l
theorem get_putT {t : Tr SV} {i : Nat} {x : SV} (h : i < 2 ^ deep) (k : Nat) : (putT t i x).get k = if k = i then some x else t.get k := Tr.get_put deep t i h k
theorem cellAt_putCells (d : List SV) : ∀ (l : List SV) (t : Tr SV) (j : Nat), j + l.length ≤ 2 ^ deep → ∀ i, cellAt d (putCells t j l) i = if j ≤ i ∧ i < j + l.length then (l[i - j]?).getD .und else cellAt d t i
  | [], t, j, _, i => by
    rw [if_neg (by simp only [List.length_nil]; omega)]
    rfl
  | x :: l, t, j, h, i => by
    simp only [List.length_cons] at h ⊢
    simp only [putCells]
    rw [cellAt_putCells d l _ (j + 1) (by omega)]
    by_cases h1 : i = j
    · subst h1
      rw [if_neg (by omega), if_pos (by omega)]
      simp [cellAt, get_putT (show i < 2 ^ deep by omega)]
    · have e : cellAt d (putT t j x) i = cellAt d t i := by simp [cellAt, get_putT (show j < 2 ^ deep by omega), h1]
      by_cases h2 : j + 1 ≤ i ∧ i < j + 1 + l.length
      · rw [if_pos h2, if_pos (by omega), show i - j = (i - (j + 1)) + 1 by omega, List.getElem?_cons_succ]
      · rw [if_neg h2, e, if_neg (by omega)]
def putD (t : Tr SV) (d : Option Nat) (x : SV) : Tr SV := match d with
  | none => t
  | some i => putT t i x
theorem sOf_putD {t : Tr SV} {d : Option Nat} {x : SV} (h : ∀ i, d = some i → i < 2 ^ deep) : sOf (putD t d x) = setSlot (sOf t) d x := by
  cases d with
  | none => rfl
  | some i => simp only [putD, sOf_put (h i rfl), setSlot]
def putAllT (t : Tr SV) : List Tmp → List SV → Tr SV
  | p :: ps, x :: xs => putAllT (putT t p x) ps xs
  | _, _ => t
theorem sOf_putAll : ∀ (ps : List Tmp) (xs : List SV) (t : Tr SV), (∀ p ∈ ps, p < 2 ^ deep) → sOf (putAllT t ps xs) = putAll (sOf t) ps xs
  | [], _, _, _ => rfl
  | _ :: _, [], _, _ => rfl
  | p :: ps, x :: xs, t, h => by
    simp only [putAllT, putAll]
    rw [sOf_putAll ps xs _ fun q hq => h q (List.mem_cons_of_mem _ hq), sOf_put (h p List.mem_cons_self)]
def startT : List SV → Nat → Tr SV → Tr SV
  | [], _, t => t
  | x :: l, i, t => startT l (i + 1) (putT t i x)
theorem sOf_startT : ∀ (l : List SV) (i : Nat) (t : Tr SV), i + l.length ≤ 2 ^ deep → sOf (startT l i t) = fun k => if i ≤ k ∧ k < i + l.length then (l[k - i]?).getD .und else sOf t k
  | [], i, t, _ => by
    funext k
    rw [if_neg (by simp only [List.length_nil]; omega)]
    rfl
  | x :: l, i, t, h => by
    simp only [List.length_cons] at h
    simp only [startT]
    rw [sOf_startT l (i + 1) _ (by omega), sOf_put (by omega)]
    funext k
    simp only [List.length_cons]
    by_cases h1 : k = i
    · subst h1
      rw [if_neg (by omega), if_pos rfl, if_pos (by omega)]
      simp
    · by_cases h2 : i + 1 ≤ k ∧ k < i + 1 + l.length
      · rw [if_pos h2, if_pos (by omega), show k - i = (k - (i + 1)) + 1 by omega, List.getElem?_cons_succ]
      · rw [if_neg h2, if_neg h1, if_neg (by omega)]
theorem sOf_start (l : List SV) (h : l.length ≤ 2 ^ deep) : sOf (startT l 0 .lf) = startI l := by
  rw [sOf_startT l 0 .lf (by omega)]
  funext k
  simp only [startI, Nat.zero_add, Nat.sub_zero, Nat.zero_le, true_and]
  split
  · rfl
  · rename_i h1
    rw [List.getElem?_eq_none (by omega)]
    rfl
def Recs (m m' : Tr CB) : Prop := ∀ id st pe k sl ps x y, m.get id = some (.loop st pe k sl ps x y) → ∃ st' pe', m'.get id = some (.loop st' pe' k sl ps x y)
theorem Recs.refl (m : Tr CB) : Recs m m := fun _ st pe _ _ _ _ _ h => ⟨st, pe, h⟩
theorem Recs.trans {a b c : Tr CB} (h : Recs a b) (k : Recs b c) : Recs a c := fun id st pe n sl ps x y hh => by
  obtain ⟨st', pe', h1⟩ := h id st pe n sl ps x y hh
  exact k id st' pe' n sl ps x y h1
theorem lt_deep {i : Nat} (h : Nat.ble i 10000000 = true) : i < 2 ^ deep := by
  have := Nat.le_of_ble_eq_true h
  have : (2 : Nat) ^ deep = 16777216 := by decide
  omega
theorem Recs.put {m : Tr CB} {i : Nat} {x : Option CB} (hi : i < 2 ^ deep) (h : ∀ st pe k sl ps x y, m.get i ≠ some (.loop st pe k sl ps x y)) : Recs m (putM m i x) := fun id st pe k sl ps a b hh => by
  refine ⟨st, pe, ?_⟩
  rw [putM, Tr.get_put deep m i hi, if_neg]
  · exact hh
  · rintro rfl; exact h st pe k sl ps a b hh
end Go.Proofs.Ytdkneonokbakjaa.Eng
