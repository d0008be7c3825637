/-
  A part of the texts that the claim builds on: see the last one.
-/
import Derived.Test.YtdkneonokbakjaaFb2
import Derived.Test.YtdkneonokbakjaaProg
set_option linter.unusedSimpArgs false
set_option linter.unusedVariables false
namespace Go.Proofs.Ytdkneonokbakjaa.Eng
open Go.RowKit
theorem info1 : (Try.prog.info? 1).map (fun i => (i.zero, i.size, i.bytes)) = some (some (.nilFunc), 1, 8) := by kernel_rfl
theorem ti1 : TiOk Try.prog 1 { size := 1, bytes := 8, zero := [.nilFunc], kind := .cell } := tiOk_mk info1 rfl rfl rfl (by decide) (⟨_, Try.underlying1, fun _ h => TypeDesc.noConfusion h, fun _ _ h => TypeDesc.noConfusion h⟩) (by decide) (fun h => absurd rfl h)
theorem info2 : (Try.prog.info? 2).map (fun i => (i.zero, i.size, i.bytes)) = some (some (.int .i64 0), 1, 8) := by kernel_rfl
theorem ti2 : TiOk Try.prog 2 { size := 1, bytes := 8, zero := [.int .i64 0], kind := .int .i64 } := tiOk_mk info2 rfl rfl rfl (by decide) (Try.underlying2) (by decide) (fun h => absurd rfl h)
theorem info3 : (Try.prog.info? 3).map (fun i => (i.zero, i.size, i.bytes)) = some (some (.int .i64 0), 1, 8) := by kernel_rfl
theorem ti3 : TiOk Try.prog 3 { size := 1, bytes := 8, zero := [.int .i64 0], kind := .int .i64 } := tiOk_mk info3 rfl rfl rfl (by decide) (Try.underlying3) (by decide) (fun h => absurd rfl h)
theorem info4 : (Try.prog.info? 4).map (fun i => (i.zero, i.size, i.bytes)) = some (some (.bool false), 1, 1) := by kernel_rfl
theorem ti4 : TiOk Try.prog 4 { size := 1, bytes := 1, zero := [.bool false], kind := .bool } := tiOk_mk info4 rfl rfl rfl (by decide) (Try.underlying4) (by decide) (fun h => absurd rfl h)
theorem info5 : (Try.prog.info? 5).map (fun i => (i.zero, i.size, i.bytes)) = some (some (.int .u8 0), 1, 1) := by kernel_rfl
theorem ti5 : TiOk Try.prog 5 { size := 1, bytes := 1, zero := [.int .u8 0], kind := .int .u8 } := tiOk_mk info5 rfl rfl rfl (by decide) (Try.underlying5) (by decide) (fun h => absurd rfl h)
theorem info6 : (Try.prog.info? 6).map (fun i => (i.zero, i.size, i.bytes)) = some (some (.int .u8 0), 1, 1) := by kernel_rfl
theorem ti6 : TiOk Try.prog 6 { size := 1, bytes := 1, zero := [.int .u8 0], kind := .int .u8 } := tiOk_mk info6 rfl rfl rfl (by decide) (Try.underlying6) (by decide) (fun h => absurd rfl h)
theorem info7 : (Try.prog.info? 7).map (fun i => (i.zero, i.size, i.bytes)) = some (some (.agg #[.int .i64 0, .int .i64 0, .bool false, .int .u8 0]), 4, 24) := by kernel_rfl
theorem ti7 : TiOk Try.prog 7 { size := 4, bytes := 24, zero := [.int .i64 0, .int .i64 0, .bool false, .int .u8 0], kind := .struct [(0, 2), (1, 3), (2, 4), (3, 6)] } := tiOk_mk info7 rfl rfl rfl (by decide) (⟨_, Try.underlying7, rfl⟩) (by decide) (fun h => absurd rfl h)
theorem info8 : (Try.prog.info? 8).map (fun i => (i.zero, i.size, i.bytes)) = some (some (.agg #[.int .i64 0, .int .i64 0, .bool false, .int .u8 0]), 4, 24) := by kernel_rfl
theorem ti8 : TiOk Try.prog 8 { size := 4, bytes := 24, zero := [.int .i64 0, .int .i64 0, .bool false, .int .u8 0], kind := .struct [(0, 2), (1, 3), (2, 4), (3, 6)] } := tiOk_mk info8 rfl rfl rfl (by decide) (⟨_, Try.underlying8, rfl⟩) (by decide) (fun h => absurd rfl h)
theorem info12 : (Try.prog.info? 12).map (fun i => (i.zero, i.size, i.bytes)) = some (some (.int .u64 0), 1, 8) := by kernel_rfl
theorem ti12 : TiOk Try.prog 12 { size := 1, bytes := 8, zero := [.int .u64 0], kind := .int .u64 } := tiOk_mk info12 rfl rfl rfl (by decide) (Try.underlying12) (by decide) (fun h => absurd rfl h)
theorem info15 : (Try.prog.info? 15).map (fun i => (i.zero, i.size, i.bytes)) = some (some (.pointer none), 1, 8) := by kernel_rfl
theorem ti15 : TiOk Try.prog 15 { size := 1, bytes := 8, zero := [.pointer none], kind := .cell } := tiOk_mk info15 rfl rfl rfl (by decide) (⟨_, Try.underlying15, fun _ h => TypeDesc.noConfusion h, fun _ _ h => TypeDesc.noConfusion h⟩) (by decide) (fun h => absurd rfl h)
theorem info16 : (Try.prog.info? 16).map (fun i => (i.zero, i.size, i.bytes)) = some (some (.pointer none), 1, 8) := by kernel_rfl
theorem ti16 : TiOk Try.prog 16 { size := 1, bytes := 8, zero := [.pointer none], kind := .cell } := tiOk_mk info16 rfl rfl rfl (by decide) (⟨_, Try.underlying16, fun _ h => TypeDesc.noConfusion h, fun _ _ h => TypeDesc.noConfusion h⟩) (by decide) (fun h => absurd rfl h)
theorem info17 : (Try.prog.info? 17).map (fun i => (i.zero, i.size, i.bytes)) = some (some (.pointer none), 1, 8) := by kernel_rfl
theorem ti17 : TiOk Try.prog 17 { size := 1, bytes := 8, zero := [.pointer none], kind := .cell } := tiOk_mk info17 rfl rfl rfl (by decide) (⟨_, Try.underlying17, fun _ h => TypeDesc.noConfusion h, fun _ _ h => TypeDesc.noConfusion h⟩) (by decide) (fun h => absurd rfl h)
theorem info18 : (Try.prog.info? 18).map (fun i => (i.zero, i.size, i.bytes)) = some (some (.agg #[.pointer none]), 1, 8) := by kernel_rfl
theorem ti18 : TiOk Try.prog 18 { size := 1, bytes := 8, zero := [.pointer none], kind := .struct [(0, 17)] } := tiOk_mk info18 rfl rfl rfl (by decide) (⟨_, Try.underlying18, rfl⟩) (by decide) (fun h => absurd rfl h)
theorem info19 : (Try.prog.info? 19).map (fun i => (i.zero, i.size, i.bytes)) = some (some (.agg #[.pointer none]), 1, 8) := by kernel_rfl
theorem ti19 : TiOk Try.prog 19 { size := 1, bytes := 8, zero := [.pointer none], kind := .struct [(0, 17)] } := tiOk_mk info19 rfl rfl rfl (by decide) (⟨_, Try.underlying19, rfl⟩) (by decide) (fun h => absurd rfl h)
theorem info21 : (Try.prog.info? 21).map (fun i => (i.zero, i.size, i.bytes)) = some (some (.int .i32 0), 1, 4) := by kernel_rfl
theorem ti21 : TiOk Try.prog 21 { size := 1, bytes := 4, zero := [.int .i32 0], kind := .int .i32 } := tiOk_mk info21 rfl rfl rfl (by decide) (Try.underlying21) (by decide) (fun h => absurd rfl h)
theorem info22 : (Try.prog.info? 22).map (fun i => (i.zero, i.size, i.bytes)) = some (some (.agg #[.int .i64 0, .int .i64 0]), 2, 16) := by kernel_rfl
theorem eqs22 (w : World) (x y : Operand) (m n : List Int) (hm : m.length = 2) (hn : n.length = 2) :
    (do eqGuard .eql 22 x y (aggInts [.i64, .i64] m) (aggInts [.i64, .i64] n); binOp .eql 22 (aggInts [.i64, .i64] m) (aggInts [.i64, .i64] n) : Sem Value).run Try.prog w = .ok (.bool (decide (m = n))) w ∧
    (do eqGuard .neq 22 x y (aggInts [.i64, .i64] m) (aggInts [.i64, .i64] n); binOp .neq 22 (aggInts [.i64, .i64] m) (aggInts [.i64, .i64] n) : Sem Value).run Try.prog w = .ok (.bool (decide (m ≠ n))) w := by
  exact eqs_by_2 w x y hm hn (by kernel_rfl) (by kernel_rfl) Try.underlying22 Try.underlying2 Try.underlying2 (by decide)
theorem ti22 : TiOk Try.prog 22 { size := 2, bytes := 16, zero := [.int .i64 0, .int .i64 0], kind := .struct [(0, 2), (1, 2)], eqk := [.i64, .i64] } := tiOk_mk info22 rfl rfl rfl (by decide) (⟨_, Try.underlying22, rfl⟩) (by decide) (fun _ => eqs22)
theorem info23 : (Try.prog.info? 23).map (fun i => (i.zero, i.size, i.bytes)) = some (some (.agg #[.int .i64 0, .int .i64 0]), 2, 16) := by kernel_rfl
theorem eqs23 (w : World) (x y : Operand) (m n : List Int) (hm : m.length = 2) (hn : n.length = 2) :
    (do eqGuard .eql 23 x y (aggInts [.i64, .i64] m) (aggInts [.i64, .i64] n); binOp .eql 23 (aggInts [.i64, .i64] m) (aggInts [.i64, .i64] n) : Sem Value).run Try.prog w = .ok (.bool (decide (m = n))) w ∧
    (do eqGuard .neq 23 x y (aggInts [.i64, .i64] m) (aggInts [.i64, .i64] n); binOp .neq 23 (aggInts [.i64, .i64] m) (aggInts [.i64, .i64] n) : Sem Value).run Try.prog w = .ok (.bool (decide (m ≠ n))) w := by
  exact eqs_by_2 w x y hm hn (by kernel_rfl) (by kernel_rfl) Try.underlying23 Try.underlying2 Try.underlying2 (by decide)
theorem ti23 : TiOk Try.prog 23 { size := 2, bytes := 16, zero := [.int .i64 0, .int .i64 0], kind := .struct [(0, 2), (1, 2)], eqk := [.i64, .i64] } := tiOk_mk info23 rfl rfl rfl (by decide) (⟨_, Try.underlying23, rfl⟩) (by decide) (fun _ => eqs23)
theorem info24 : (Try.prog.info? 24).map (fun i => (i.zero, i.size, i.bytes)) = some (some (.agg #[.int .i64 0, .int .i64 0, .int .i64 0, .int .i64 0, .int .i64 0]), 5, 40) := by kernel_rfl
theorem ti24 : TiOk Try.prog 24 { size := 5, bytes := 40, zero := [.int .i64 0, .int .i64 0, .int .i64 0, .int .i64 0, .int .i64 0], kind := .struct [(0, 2), (1, 2), (2, 2), (3, 23)] } := tiOk_mk info24 rfl rfl rfl (by decide) (⟨_, Try.underlying24, rfl⟩) (by decide) (fun h => absurd rfl h)
theorem info25 : (Try.prog.info? 25).map (fun i => (i.zero, i.size, i.bytes)) = some (some (.agg #[.int .i64 0, .int .i64 0, .int .i64 0, .int .i64 0, .int .i64 0]), 5, 40) := by kernel_rfl
theorem ti25 : TiOk Try.prog 25 { size := 5, bytes := 40, zero := [.int .i64 0, .int .i64 0, .int .i64 0, .int .i64 0, .int .i64 0], kind := .struct [(0, 2), (1, 2), (2, 2), (3, 23)] } := tiOk_mk info25 rfl rfl rfl (by decide) (⟨_, Try.underlying25, rfl⟩) (by decide) (fun h => absurd rfl h)
theorem info26 : (Try.prog.info? 26).map (fun i => (i.zero, i.size, i.bytes)) = some (some (.slice none 0 0), 1, 24) := by kernel_rfl
theorem ti26 : TiOk Try.prog 26 { size := 1, bytes := 24, zero := [.slice none 0 0], kind := .slice 2 } := tiOk_mk info26 rfl rfl rfl (by decide) (Try.underlying26) (by decide) (fun h => absurd rfl h)
theorem info27 : (Try.prog.info? 27).map (fun i => (i.zero, i.size, i.bytes)) = some (some (.nilFunc), 1, 8) := by kernel_rfl
theorem ti27 : TiOk Try.prog 27 { size := 1, bytes := 8, zero := [.nilFunc], kind := .cell } := tiOk_mk info27 rfl rfl rfl (by decide) (⟨_, Try.underlying27, fun _ h => TypeDesc.noConfusion h, fun _ _ h => TypeDesc.noConfusion h⟩) (by decide) (fun h => absurd rfl h)
theorem info28 : (Try.prog.info? 28).map (fun i => (i.zero, i.size, i.bytes)) = some (some (.nilFunc), 1, 8) := by kernel_rfl
theorem ti28 : TiOk Try.prog 28 { size := 1, bytes := 8, zero := [.nilFunc], kind := .cell } := tiOk_mk info28 rfl rfl rfl (by decide) (⟨_, Try.underlying28, fun _ h => TypeDesc.noConfusion h, fun _ _ h => TypeDesc.noConfusion h⟩) (by decide) (fun h => absurd rfl h)
theorem info29 : (Try.prog.info? 29).map (fun i => (i.zero, i.size, i.bytes)) = some (some (.int .i64 0), 1, 8) := by kernel_rfl
theorem ti29 : TiOk Try.prog 29 { size := 1, bytes := 8, zero := [.int .i64 0], kind := .int .i64 } := tiOk_mk info29 rfl rfl rfl (by decide) (Try.underlying29) (by decide) (fun h => absurd rfl h)
theorem info31 : (Try.prog.info? 31).map (fun i => (i.zero, i.size, i.bytes)) = some (some (.nilFunc), 1, 8) := by kernel_rfl
theorem ti31 : TiOk Try.prog 31 { size := 1, bytes := 8, zero := [.nilFunc], kind := .cell } := tiOk_mk info31 rfl rfl rfl (by decide) (⟨_, Try.underlying31, fun _ h => TypeDesc.noConfusion h, fun _ _ h => TypeDesc.noConfusion h⟩) (by decide) (fun h => absurd rfl h)
theorem info33 : (Try.prog.info? 33).map (fun i => (i.zero, i.size, i.bytes)) = some (some (.nilFunc), 1, 8) := by kernel_rfl
theorem ti33 : TiOk Try.prog 33 { size := 1, bytes := 8, zero := [.nilFunc], kind := .cell } := tiOk_mk info33 rfl rfl rfl (by decide) (⟨_, Try.underlying33, fun _ h => TypeDesc.noConfusion h, fun _ _ h => TypeDesc.noConfusion h⟩) (by decide) (fun h => absurd rfl h)
theorem info34 : (Try.prog.info? 34).map (fun i => (i.zero, i.size, i.bytes)) = some (some (.nilFunc), 1, 8) := by kernel_rfl
theorem ti34 : TiOk Try.prog 34 { size := 1, bytes := 8, zero := [.nilFunc], kind := .cell } := tiOk_mk info34 rfl rfl rfl (by decide) (⟨_, Try.underlying34, fun _ h => TypeDesc.noConfusion h, fun _ _ h => TypeDesc.noConfusion h⟩) (by decide) (fun h => absurd rfl h)
theorem info35 : (Try.prog.info? 35).map (fun i => (i.zero, i.size, i.bytes)) = some (some (.nilFunc), 1, 8) := by kernel_rfl
theorem ti35 : TiOk Try.prog 35 { size := 1, bytes := 8, zero := [.nilFunc], kind := .cell } := tiOk_mk info35 rfl rfl rfl (by decide) (⟨_, Try.underlying35, fun _ h => TypeDesc.noConfusion h, fun _ _ h => TypeDesc.noConfusion h⟩) (by decide) (fun h => absurd rfl h)
theorem info36 : (Try.prog.info? 36).map (fun i => (i.zero, i.size, i.bytes)) = some (some (.slice none 0 0), 1, 24) := by kernel_rfl
theorem ti36 : TiOk Try.prog 36 { size := 1, bytes := 24, zero := [.slice none 0 0], kind := .slice 59 } := tiOk_mk info36 rfl rfl rfl (by decide) (Try.underlying36) (by decide) (fun h => absurd rfl h)
theorem info37 : (Try.prog.info? 37).map (fun i => (i.zero, i.size, i.bytes)) = some (some (.nilFunc), 1, 8) := by kernel_rfl
theorem ti37 : TiOk Try.prog 37 { size := 1, bytes := 8, zero := [.nilFunc], kind := .cell } := tiOk_mk info37 rfl rfl rfl (by decide) (⟨_, Try.underlying37, fun _ h => TypeDesc.noConfusion h, fun _ _ h => TypeDesc.noConfusion h⟩) (by decide) (fun h => absurd rfl h)
theorem info38 : (Try.prog.info? 38).map (fun i => (i.zero, i.size, i.bytes)) = some (some (.nilFunc), 1, 8) := by kernel_rfl
theorem ti38 : TiOk Try.prog 38 { size := 1, bytes := 8, zero := [.nilFunc], kind := .cell } := tiOk_mk info38 rfl rfl rfl (by decide) (⟨_, Try.underlying38, fun _ h => TypeDesc.noConfusion h, fun _ _ h => TypeDesc.noConfusion h⟩) (by decide) (fun h => absurd rfl h)
theorem info39 : (Try.prog.info? 39).map (fun i => (i.zero, i.size, i.bytes)) = some (some (.nilFunc), 1, 8) := by kernel_rfl
theorem ti39 : TiOk Try.prog 39 { size := 1, bytes := 8, zero := [.nilFunc], kind := .cell } := tiOk_mk info39 rfl rfl rfl (by decide) (⟨_, Try.underlying39, fun _ h => TypeDesc.noConfusion h, fun _ _ h => TypeDesc.noConfusion h⟩) (by decide) (fun h => absurd rfl h)
theorem info41 : (Try.prog.info? 41).map (fun i => (i.zero, i.size, i.bytes)) = some (some (.nilFunc), 1, 8) := by kernel_rfl
theorem ti41 : TiOk Try.prog 41 { size := 1, bytes := 8, zero := [.nilFunc], kind := .cell } := tiOk_mk info41 rfl rfl rfl (by decide) (⟨_, Try.underlying41, fun _ h => TypeDesc.noConfusion h, fun _ _ h => TypeDesc.noConfusion h⟩) (by decide) (fun h => absurd rfl h)
theorem info43 : (Try.prog.info? 43).map (fun i => (i.zero, i.size, i.bytes)) = some (some (.nilFunc), 1, 8) := by kernel_rfl
theorem ti43 : TiOk Try.prog 43 { size := 1, bytes := 8, zero := [.nilFunc], kind := .cell } := tiOk_mk info43 rfl rfl rfl (by decide) (⟨_, Try.underlying43, fun _ h => TypeDesc.noConfusion h, fun _ _ h => TypeDesc.noConfusion h⟩) (by decide) (fun h => absurd rfl h)
theorem info44 : (Try.prog.info? 44).map (fun i => (i.zero, i.size, i.bytes)) = some (some (.nilFunc), 1, 8) := by kernel_rfl
theorem ti44 : TiOk Try.prog 44 { size := 1, bytes := 8, zero := [.nilFunc], kind := .cell } := tiOk_mk info44 rfl rfl rfl (by decide) (⟨_, Try.underlying44, fun _ h => TypeDesc.noConfusion h, fun _ _ h => TypeDesc.noConfusion h⟩) (by decide) (fun h => absurd rfl h)
theorem info45 : (Try.prog.info? 45).map (fun i => (i.zero, i.size, i.bytes)) = some (some (.nilFunc), 1, 8) := by kernel_rfl
theorem ti45 : TiOk Try.prog 45 { size := 1, bytes := 8, zero := [.nilFunc], kind := .cell } := tiOk_mk info45 rfl rfl rfl (by decide) (⟨_, Try.underlying45, fun _ h => TypeDesc.noConfusion h, fun _ _ h => TypeDesc.noConfusion h⟩) (by decide) (fun h => absurd rfl h)
theorem info46 : (Try.prog.info? 46).map (fun i => (i.zero, i.size, i.bytes)) = some (some (.nilFunc), 1, 8) := by kernel_rfl
theorem ti46 : TiOk Try.prog 46 { size := 1, bytes := 8, zero := [.nilFunc], kind := .cell } := tiOk_mk info46 rfl rfl rfl (by decide) (⟨_, Try.underlying46, fun _ h => TypeDesc.noConfusion h, fun _ _ h => TypeDesc.noConfusion h⟩) (by decide) (fun h => absurd rfl h)
theorem info47 : (Try.prog.info? 47).map (fun i => (i.zero, i.size, i.bytes)) = some (some (.nilFunc), 1, 8) := by kernel_rfl
theorem ti47 : TiOk Try.prog 47 { size := 1, bytes := 8, zero := [.nilFunc], kind := .cell } := tiOk_mk info47 rfl rfl rfl (by decide) (⟨_, Try.underlying47, fun _ h => TypeDesc.noConfusion h, fun _ _ h => TypeDesc.noConfusion h⟩) (by decide) (fun h => absurd rfl h)
theorem info48 : (Try.prog.info? 48).map (fun i => (i.zero, i.size, i.bytes)) = some (some (.nilFunc), 1, 8) := by kernel_rfl
theorem ti48 : TiOk Try.prog 48 { size := 1, bytes := 8, zero := [.nilFunc], kind := .cell } := tiOk_mk info48 rfl rfl rfl (by decide) (⟨_, Try.underlying48, fun _ h => TypeDesc.noConfusion h, fun _ _ h => TypeDesc.noConfusion h⟩) (by decide) (fun h => absurd rfl h)
theorem info49 : (Try.prog.info? 49).map (fun i => (i.zero, i.size, i.bytes)) = some (some (.slice none 0 0), 1, 24) := by kernel_rfl
theorem ti49 : TiOk Try.prog 49 { size := 1, bytes := 24, zero := [.slice none 0 0], kind := .slice 3 } := tiOk_mk info49 rfl rfl rfl (by decide) (Try.underlying49) (by decide) (fun h => absurd rfl h)
theorem info51 : (Try.prog.info? 51).map (fun i => (i.zero, i.size, i.bytes)) = some (some (.nilFunc), 1, 8) := by kernel_rfl
theorem ti51 : TiOk Try.prog 51 { size := 1, bytes := 8, zero := [.nilFunc], kind := .cell } := tiOk_mk info51 rfl rfl rfl (by decide) (⟨_, Try.underlying51, fun _ h => TypeDesc.noConfusion h, fun _ _ h => TypeDesc.noConfusion h⟩) (by decide) (fun h => absurd rfl h)
theorem info52 : (Try.prog.info? 52).map (fun i => (i.zero, i.size, i.bytes)) = some (some (.nilFunc), 1, 8) := by kernel_rfl
theorem ti52 : TiOk Try.prog 52 { size := 1, bytes := 8, zero := [.nilFunc], kind := .cell } := tiOk_mk info52 rfl rfl rfl (by decide) (⟨_, Try.underlying52, fun _ h => TypeDesc.noConfusion h, fun _ _ h => TypeDesc.noConfusion h⟩) (by decide) (fun h => absurd rfl h)
theorem info53 : (Try.prog.info? 53).map (fun i => (i.zero, i.size, i.bytes)) = some (some (.nilFunc), 1, 8) := by kernel_rfl
theorem ti53 : TiOk Try.prog 53 { size := 1, bytes := 8, zero := [.nilFunc], kind := .cell } := tiOk_mk info53 rfl rfl rfl (by decide) (⟨_, Try.underlying53, fun _ h => TypeDesc.noConfusion h, fun _ _ h => TypeDesc.noConfusion h⟩) (by decide) (fun h => absurd rfl h)
theorem info54 : (Try.prog.info? 54).map (fun i => (i.zero, i.size, i.bytes)) = some (some (.int .u32 0), 1, 4) := by kernel_rfl
theorem ti54 : TiOk Try.prog 54 { size := 1, bytes := 4, zero := [.int .u32 0], kind := .int .u32 } := tiOk_mk info54 rfl rfl rfl (by decide) (Try.underlying54) (by decide) (fun h => absurd rfl h)
theorem info55 : (Try.prog.info? 55).map (fun i => (i.zero, i.size, i.bytes)) = some (some (.slice none 0 0), 1, 24) := by kernel_rfl
theorem ti55 : TiOk Try.prog 55 { size := 1, bytes := 24, zero := [.slice none 0 0], kind := .slice 36 } := tiOk_mk info55 rfl rfl rfl (by decide) (Try.underlying55) (by decide) (fun h => absurd rfl h)
theorem info56 : (Try.prog.info? 56).map (fun i => (i.zero, i.size, i.bytes)) = some (some (.nilFunc), 1, 8) := by kernel_rfl
theorem ti56 : TiOk Try.prog 56 { size := 1, bytes := 8, zero := [.nilFunc], kind := .cell } := tiOk_mk info56 rfl rfl rfl (by decide) (⟨_, Try.underlying56, fun _ h => TypeDesc.noConfusion h, fun _ _ h => TypeDesc.noConfusion h⟩) (by decide) (fun h => absurd rfl h)
theorem info57 : (Try.prog.info? 57).map (fun i => (i.zero, i.size, i.bytes)) = some (some (.nilFunc), 1, 8) := by kernel_rfl
theorem ti57 : TiOk Try.prog 57 { size := 1, bytes := 8, zero := [.nilFunc], kind := .cell } := tiOk_mk info57 rfl rfl rfl (by decide) (⟨_, Try.underlying57, fun _ h => TypeDesc.noConfusion h, fun _ _ h => TypeDesc.noConfusion h⟩) (by decide) (fun h => absurd rfl h)
theorem info58 : (Try.prog.info? 58).map (fun i => (i.zero, i.size, i.bytes)) = some (some (.agg #[.int .i64 0, .int .i64 0]), 2, 16) := by kernel_rfl
theorem eqs58 (w : World) (x y : Operand) (m n : List Int) (hm : m.length = 2) (hn : n.length = 2) :
    (do eqGuard .eql 58 x y (aggInts [.i64, .i64] m) (aggInts [.i64, .i64] n); binOp .eql 58 (aggInts [.i64, .i64] m) (aggInts [.i64, .i64] n) : Sem Value).run Try.prog w = .ok (.bool (decide (m = n))) w ∧
    (do eqGuard .neq 58 x y (aggInts [.i64, .i64] m) (aggInts [.i64, .i64] n); binOp .neq 58 (aggInts [.i64, .i64] m) (aggInts [.i64, .i64] n) : Sem Value).run Try.prog w = .ok (.bool (decide (m ≠ n))) w := by
  exact eqs_by_2 w x y hm hn (by kernel_rfl) (by kernel_rfl) Try.underlying58 Try.underlying2 Try.underlying3 (by decide)
theorem ti58 : TiOk Try.prog 58 { size := 2, bytes := 16, zero := [.int .i64 0, .int .i64 0], kind := .struct [(0, 2), (1, 3)], eqk := [.i64, .i64] } := tiOk_mk info58 rfl rfl rfl (by decide) (⟨_, Try.underlying58, rfl⟩) (by decide) (fun _ => eqs58)
theorem info59 : (Try.prog.info? 59).map (fun i => (i.zero, i.size, i.bytes)) = some (some (.agg #[.int .i64 0, .int .i64 0]), 2, 16) := by kernel_rfl
theorem eqs59 (w : World) (x y : Operand) (m n : List Int) (hm : m.length = 2) (hn : n.length = 2) :
    (do eqGuard .eql 59 x y (aggInts [.i64, .i64] m) (aggInts [.i64, .i64] n); binOp .eql 59 (aggInts [.i64, .i64] m) (aggInts [.i64, .i64] n) : Sem Value).run Try.prog w = .ok (.bool (decide (m = n))) w ∧
    (do eqGuard .neq 59 x y (aggInts [.i64, .i64] m) (aggInts [.i64, .i64] n); binOp .neq 59 (aggInts [.i64, .i64] m) (aggInts [.i64, .i64] n) : Sem Value).run Try.prog w = .ok (.bool (decide (m ≠ n))) w := by
  exact eqs_by_2 w x y hm hn (by kernel_rfl) (by kernel_rfl) Try.underlying59 Try.underlying2 Try.underlying3 (by decide)
theorem ti59 : TiOk Try.prog 59 { size := 2, bytes := 16, zero := [.int .i64 0, .int .i64 0], kind := .struct [(0, 2), (1, 3)], eqk := [.i64, .i64] } := tiOk_mk info59 rfl rfl rfl (by decide) (⟨_, Try.underlying59, rfl⟩) (by decide) (fun _ => eqs59)
theorem info60 : (Try.prog.info? 60).map (fun i => (i.zero, i.size, i.bytes)) = some (some (.nilFunc), 1, 8) := by kernel_rfl
theorem ti60 : TiOk Try.prog 60 { size := 1, bytes := 8, zero := [.nilFunc], kind := .cell } := tiOk_mk info60 rfl rfl rfl (by decide) (⟨_, Try.underlying60, fun _ h => TypeDesc.noConfusion h, fun _ _ h => TypeDesc.noConfusion h⟩) (by decide) (fun h => absurd rfl h)
theorem info61 : (Try.prog.info? 61).map (fun i => (i.zero, i.size, i.bytes)) = some (some (.nilFunc), 1, 8) := by kernel_rfl
theorem ti61 : TiOk Try.prog 61 { size := 1, bytes := 8, zero := [.nilFunc], kind := .cell } := tiOk_mk info61 rfl rfl rfl (by decide) (⟨_, Try.underlying61, fun _ h => TypeDesc.noConfusion h, fun _ _ h => TypeDesc.noConfusion h⟩) (by decide) (fun h => absurd rfl h)
theorem info62 : (Try.prog.info? 62).map (fun i => (i.zero, i.size, i.bytes)) = some (some (.agg #[.int .u32 0, .int .u32 0]), 2, 8) := by kernel_rfl
theorem eqs62 (w : World) (x y : Operand) (m n : List Int) (hm : m.length = 2) (hn : n.length = 2) :
    (do eqGuard .eql 62 x y (aggInts [.u32, .u32] m) (aggInts [.u32, .u32] n); binOp .eql 62 (aggInts [.u32, .u32] m) (aggInts [.u32, .u32] n) : Sem Value).run Try.prog w = .ok (.bool (decide (m = n))) w ∧
    (do eqGuard .neq 62 x y (aggInts [.u32, .u32] m) (aggInts [.u32, .u32] n); binOp .neq 62 (aggInts [.u32, .u32] m) (aggInts [.u32, .u32] n) : Sem Value).run Try.prog w = .ok (.bool (decide (m ≠ n))) w :=
  eqs_by_arr (N := 2) w x y hm hn (by kernel_rfl) Try.underlying62 Try.underlying54 (i := (Try.prog.info? 54).getD default) (by kernel_rfl) (by decide +kernel)
theorem ti62 : TiOk Try.prog 62 { size := 2, bytes := 8, zero := [.int .u32 0, .int .u32 0], kind := .array 2 54, eqk := [.u32, .u32] } := tiOk_mk info62 rfl rfl rfl (by decide) (Try.underlying62) (by decide) (fun _ => eqs62)
theorem info63 : (Try.prog.info? 63).map (fun i => (i.zero, i.size, i.bytes)) = some (some (.int .u16 0), 1, 2) := by kernel_rfl
theorem ti63 : TiOk Try.prog 63 { size := 1, bytes := 2, zero := [.int .u16 0], kind := .int .u16 } := tiOk_mk info63 rfl rfl rfl (by decide) (Try.underlying63) (by decide) (fun h => absurd rfl h)
theorem info64 : (Try.prog.info? 64).map (fun i => (i.zero, i.size, i.bytes)) = some (some (.agg #[.int .u16 0, .int .u16 0, .int .u16 0]), 3, 6) := by kernel_rfl
theorem eqs64 (w : World) (x y : Operand) (m n : List Int) (hm : m.length = 3) (hn : n.length = 3) :
    (do eqGuard .eql 64 x y (aggInts [.u16, .u16, .u16] m) (aggInts [.u16, .u16, .u16] n); binOp .eql 64 (aggInts [.u16, .u16, .u16] m) (aggInts [.u16, .u16, .u16] n) : Sem Value).run Try.prog w = .ok (.bool (decide (m = n))) w ∧
    (do eqGuard .neq 64 x y (aggInts [.u16, .u16, .u16] m) (aggInts [.u16, .u16, .u16] n); binOp .neq 64 (aggInts [.u16, .u16, .u16] m) (aggInts [.u16, .u16, .u16] n) : Sem Value).run Try.prog w = .ok (.bool (decide (m ≠ n))) w :=
  eqs_by_arr (N := 3) w x y hm hn (by kernel_rfl) Try.underlying64 Try.underlying63 (i := (Try.prog.info? 63).getD default) (by kernel_rfl) (by decide +kernel)
theorem ti64 : TiOk Try.prog 64 { size := 3, bytes := 6, zero := [.int .u16 0, .int .u16 0, .int .u16 0], kind := .array 3 63, eqk := [.u16, .u16, .u16] } := tiOk_mk info64 rfl rfl rfl (by decide) (Try.underlying64) (by decide) (fun _ => eqs64)
theorem info66 : (Try.prog.info? 66).map (fun i => (i.zero, i.size, i.bytes)) = some (some (.nilFunc), 1, 8) := by kernel_rfl
theorem ti66 : TiOk Try.prog 66 { size := 1, bytes := 8, zero := [.nilFunc], kind := .cell } := tiOk_mk info66 rfl rfl rfl (by decide) (⟨_, Try.underlying66, fun _ h => TypeDesc.noConfusion h, fun _ _ h => TypeDesc.noConfusion h⟩) (by decide) (fun h => absurd rfl h)
theorem info67 : (Try.prog.info? 67).map (fun i => (i.zero, i.size, i.bytes)) = some (some (.nilFunc), 1, 8) := by kernel_rfl
theorem ti67 : TiOk Try.prog 67 { size := 1, bytes := 8, zero := [.nilFunc], kind := .cell } := tiOk_mk info67 rfl rfl rfl (by decide) (⟨_, Try.underlying67, fun _ h => TypeDesc.noConfusion h, fun _ _ h => TypeDesc.noConfusion h⟩) (by decide) (fun h => absurd rfl h)
theorem info68 : (Try.prog.info? 68).map (fun i => (i.zero, i.size, i.bytes)) = some (some (.slice none 0 0), 1, 24) := by kernel_rfl
theorem ti68 : TiOk Try.prog 68 { size := 1, bytes := 24, zero := [.slice none 0 0], kind := .slice 25 } := tiOk_mk info68 rfl rfl rfl (by decide) (Try.underlying68) (by decide) (fun h => absurd rfl h)
theorem info69 : (Try.prog.info? 69).map (fun i => (i.zero, i.size, i.bytes)) = some (some (.nilFunc), 1, 8) := by kernel_rfl
theorem ti69 : TiOk Try.prog 69 { size := 1, bytes := 8, zero := [.nilFunc], kind := .cell } := tiOk_mk info69 rfl rfl rfl (by decide) (⟨_, Try.underlying69, fun _ h => TypeDesc.noConfusion h, fun _ _ h => TypeDesc.noConfusion h⟩) (by decide) (fun h => absurd rfl h)
theorem info70 : (Try.prog.info? 70).map (fun i => (i.zero, i.size, i.bytes)) = some (some (.nilFunc), 1, 8) := by kernel_rfl
theorem ti70 : TiOk Try.prog 70 { size := 1, bytes := 8, zero := [.nilFunc], kind := .cell } := tiOk_mk info70 rfl rfl rfl (by decide) (⟨_, Try.underlying70, fun _ h => TypeDesc.noConfusion h, fun _ _ h => TypeDesc.noConfusion h⟩) (by decide) (fun h => absurd rfl h)
theorem info71 : (Try.prog.info? 71).map (fun i => (i.zero, i.size, i.bytes)) = some (some (.nilFunc), 1, 8) := by kernel_rfl
theorem ti71 : TiOk Try.prog 71 { size := 1, bytes := 8, zero := [.nilFunc], kind := .cell } := tiOk_mk info71 rfl rfl rfl (by decide) (⟨_, Try.underlying71, fun _ h => TypeDesc.noConfusion h, fun _ _ h => TypeDesc.noConfusion h⟩) (by decide) (fun h => absurd rfl h)
theorem info72 : (Try.prog.info? 72).map (fun i => (i.zero, i.size, i.bytes)) = some (some (.nilFunc), 1, 8) := by kernel_rfl
theorem ti72 : TiOk Try.prog 72 { size := 1, bytes := 8, zero := [.nilFunc], kind := .cell } := tiOk_mk info72 rfl rfl rfl (by decide) (⟨_, Try.underlying72, fun _ h => TypeDesc.noConfusion h, fun _ _ h => TypeDesc.noConfusion h⟩) (by decide) (fun h => absurd rfl h)
theorem info73 : (Try.prog.info? 73).map (fun i => (i.zero, i.size, i.bytes)) = some (some (.nilFunc), 1, 8) := by kernel_rfl
theorem ti73 : TiOk Try.prog 73 { size := 1, bytes := 8, zero := [.nilFunc], kind := .cell } := tiOk_mk info73 rfl rfl rfl (by decide) (⟨_, Try.underlying73, fun _ h => TypeDesc.noConfusion h, fun _ _ h => TypeDesc.noConfusion h⟩) (by decide) (fun h => absurd rfl h)
theorem info74 : (Try.prog.info? 74).map (fun i => (i.zero, i.size, i.bytes)) = some (some (.slice none 0 0), 1, 24) := by kernel_rfl
theorem ti74 : TiOk Try.prog 74 { size := 1, bytes := 24, zero := [.slice none 0 0], kind := .slice 23 } := tiOk_mk info74 rfl rfl rfl (by decide) (Try.underlying74) (by decide) (fun h => absurd rfl h)
theorem info75 : (Try.prog.info? 75).map (fun i => (i.zero, i.size, i.bytes)) = some (some (.nilFunc), 1, 8) := by kernel_rfl
theorem ti75 : TiOk Try.prog 75 { size := 1, bytes := 8, zero := [.nilFunc], kind := .cell } := tiOk_mk info75 rfl rfl rfl (by decide) (⟨_, Try.underlying75, fun _ h => TypeDesc.noConfusion h, fun _ _ h => TypeDesc.noConfusion h⟩) (by decide) (fun h => absurd rfl h)
theorem info76 : (Try.prog.info? 76).map (fun i => (i.zero, i.size, i.bytes)) = some (some (.pointer none), 1, 8) := by kernel_rfl
theorem ti76 : TiOk Try.prog 76 { size := 1, bytes := 8, zero := [.pointer none], kind := .cell } := tiOk_mk info76 rfl rfl rfl (by decide) (⟨_, Try.underlying76, fun _ h => TypeDesc.noConfusion h, fun _ _ h => TypeDesc.noConfusion h⟩) (by decide) (fun h => absurd rfl h)
theorem info78 : (Try.prog.info? 78).map (fun i => (i.zero, i.size, i.bytes)) = some (some (.nilFunc), 1, 8) := by kernel_rfl
theorem ti78 : TiOk Try.prog 78 { size := 1, bytes := 8, zero := [.nilFunc], kind := .cell } := tiOk_mk info78 rfl rfl rfl (by decide) (⟨_, Try.underlying78, fun _ h => TypeDesc.noConfusion h, fun _ _ h => TypeDesc.noConfusion h⟩) (by decide) (fun h => absurd rfl h)
theorem info79 : (Try.prog.info? 79).map (fun i => (i.zero, i.size, i.bytes)) = some (some (.nilFunc), 1, 8) := by kernel_rfl
theorem ti79 : TiOk Try.prog 79 { size := 1, bytes := 8, zero := [.nilFunc], kind := .cell } := tiOk_mk info79 rfl rfl rfl (by decide) (⟨_, Try.underlying79, fun _ h => TypeDesc.noConfusion h, fun _ _ h => TypeDesc.noConfusion h⟩) (by decide) (fun h => absurd rfl h)
theorem info80 : (Try.prog.info? 80).map (fun i => (i.zero, i.size, i.bytes)) = some (some (.agg #[.int .i64 0, .int .i64 0, .int .i64 0, .int .i64 0, .int .i64 0, .int .i64 0, .int .i64 0, .int .i64 0, .int .i64 0, .int .i64 0, .int .i64 0, .int .i64 0, .int .i64 0, .int .i64 0, .int .i64 0, .int .i64 0, .int .i64 0, .int .i64 0, .int .i64 0, .int .i64 0, .int .i64 0, .int .i64 0, .int .i64 0, .int .i64 0]), 24, 192) := by kernel_rfl
theorem ti80 : TiOk Try.prog 80 { size := 24, bytes := 192, zero := [.int .i64 0, .int .i64 0, .int .i64 0, .int .i64 0, .int .i64 0, .int .i64 0, .int .i64 0, .int .i64 0, .int .i64 0, .int .i64 0, .int .i64 0, .int .i64 0, .int .i64 0, .int .i64 0, .int .i64 0, .int .i64 0, .int .i64 0, .int .i64 0, .int .i64 0, .int .i64 0, .int .i64 0, .int .i64 0, .int .i64 0, .int .i64 0], kind := .array 12 23 } := tiOk_mk info80 rfl rfl rfl (by decide) (Try.underlying80) (by decide) (fun h => absurd rfl h)
theorem info81 : (Try.prog.info? 81).map (fun i => (i.zero, i.size, i.bytes)) = some (some (.agg #[.int .i64 0, .int .i64 0, .int .i64 0, .int .i64 0, .int .i64 0, .int .i64 0, .int .i64 0, .int .i64 0, .int .i64 0, .int .i64 0, .int .i64 0, .int .i64 0, .int .i64 0, .int .i64 0, .int .i64 0, .int .i64 0, .int .i64 0, .int .i64 0, .int .i64 0, .int .i64 0, .int .i64 0, .int .i64 0, .int .i64 0, .int .i64 0]), 24, 192) := by kernel_rfl
theorem ti81 : TiOk Try.prog 81 { size := 24, bytes := 192, zero := [.int .i64 0, .int .i64 0, .int .i64 0, .int .i64 0, .int .i64 0, .int .i64 0, .int .i64 0, .int .i64 0, .int .i64 0, .int .i64 0, .int .i64 0, .int .i64 0, .int .i64 0, .int .i64 0, .int .i64 0, .int .i64 0, .int .i64 0, .int .i64 0, .int .i64 0, .int .i64 0, .int .i64 0, .int .i64 0, .int .i64 0, .int .i64 0], kind := .array 12 23 } := tiOk_mk info81 rfl rfl rfl (by decide) (Try.underlying81) (by decide) (fun h => absurd rfl h)
theorem info82 : (Try.prog.info? 82).map (fun i => (i.zero, i.size, i.bytes)) = some (some (.agg #[.int .i64 0, .int .i64 0, .int .i64 0, .int .i64 0, .int .i64 0, .slice none 0 0, .int .i64 0, .int .i64 0, .int .i64 0, .int .i64 0, .int .i64 0, .int .i64 0, .int .i64 0, .int .i64 0, .int .i64 0, .int .i64 0, .int .i64 0, .int .i64 0, .int .i64 0, .int .i64 0, .int .i64 0, .int .i64 0, .int .i64 0, .int .i64 0, .int .i64 0, .int .i64 0, .int .i64 0, .int .i64 0, .int .i64 0, .int .i64 0]), 30, 256) := by kernel_rfl
theorem ti82 : TiOk Try.prog 82 { size := 30, bytes := 256, zero := [.int .i64 0, .int .i64 0, .int .i64 0, .int .i64 0, .int .i64 0, .slice none 0 0, .int .i64 0, .int .i64 0, .int .i64 0, .int .i64 0, .int .i64 0, .int .i64 0, .int .i64 0, .int .i64 0, .int .i64 0, .int .i64 0, .int .i64 0, .int .i64 0, .int .i64 0, .int .i64 0, .int .i64 0, .int .i64 0, .int .i64 0, .int .i64 0, .int .i64 0, .int .i64 0, .int .i64 0, .int .i64 0, .int .i64 0, .int .i64 0], kind := .struct [(0, 25), (5, 26), (6, 81)] } := tiOk_mk info82 rfl rfl rfl (by decide) (⟨_, Try.underlying82, rfl⟩) (by decide) (fun h => absurd rfl h)
theorem info83 : (Try.prog.info? 83).map (fun i => (i.zero, i.size, i.bytes)) = some (some (.agg #[.int .i64 0, .int .i64 0, .int .i64 0, .int .i64 0, .int .i64 0, .slice none 0 0, .int .i64 0, .int .i64 0, .int .i64 0, .int .i64 0, .int .i64 0, .int .i64 0, .int .i64 0, .int .i64 0, .int .i64 0, .int .i64 0, .int .i64 0, .int .i64 0, .int .i64 0, .int .i64 0, .int .i64 0, .int .i64 0, .int .i64 0, .int .i64 0, .int .i64 0, .int .i64 0, .int .i64 0, .int .i64 0, .int .i64 0, .int .i64 0]), 30, 256) := by kernel_rfl
theorem ti83 : TiOk Try.prog 83 { size := 30, bytes := 256, zero := [.int .i64 0, .int .i64 0, .int .i64 0, .int .i64 0, .int .i64 0, .slice none 0 0, .int .i64 0, .int .i64 0, .int .i64 0, .int .i64 0, .int .i64 0, .int .i64 0, .int .i64 0, .int .i64 0, .int .i64 0, .int .i64 0, .int .i64 0, .int .i64 0, .int .i64 0, .int .i64 0, .int .i64 0, .int .i64 0, .int .i64 0, .int .i64 0, .int .i64 0, .int .i64 0, .int .i64 0, .int .i64 0, .int .i64 0, .int .i64 0], kind := .struct [(0, 25), (5, 26), (6, 81)] } := tiOk_mk info83 rfl rfl rfl (by decide) (⟨_, Try.underlying83, rfl⟩) (by decide) (fun h => absurd rfl h)
theorem info84 : (Try.prog.info? 84).map (fun i => (i.zero, i.size, i.bytes)) = some (some (.nilFunc), 1, 8) := by kernel_rfl
theorem ti84 : TiOk Try.prog 84 { size := 1, bytes := 8, zero := [.nilFunc], kind := .cell } := tiOk_mk info84 rfl rfl rfl (by decide) (⟨_, Try.underlying84, fun _ h => TypeDesc.noConfusion h, fun _ _ h => TypeDesc.noConfusion h⟩) (by decide) (fun h => absurd rfl h)
theorem info86 : (Try.prog.info? 86).map (fun i => (i.zero, i.size, i.bytes)) = some (some (.nilFunc), 1, 8) := by kernel_rfl
theorem ti86 : TiOk Try.prog 86 { size := 1, bytes := 8, zero := [.nilFunc], kind := .cell } := tiOk_mk info86 rfl rfl rfl (by decide) (⟨_, Try.underlying86, fun _ h => TypeDesc.noConfusion h, fun _ _ h => TypeDesc.noConfusion h⟩) (by decide) (fun h => absurd rfl h)
theorem info87 : (Try.prog.info? 87).map (fun i => (i.zero, i.size, i.bytes)) = some (some (.nilFunc), 1, 8) := by kernel_rfl
theorem ti87 : TiOk Try.prog 87 { size := 1, bytes := 8, zero := [.nilFunc], kind := .cell } := tiOk_mk info87 rfl rfl rfl (by decide) (⟨_, Try.underlying87, fun _ h => TypeDesc.noConfusion h, fun _ _ h => TypeDesc.noConfusion h⟩) (by decide) (fun h => absurd rfl h)
theorem info88 : (Try.prog.info? 88).map (fun i => (i.zero, i.size, i.bytes)) = some (some (.nilFunc), 1, 8) := by kernel_rfl
theorem ti88 : TiOk Try.prog 88 { size := 1, bytes := 8, zero := [.nilFunc], kind := .cell } := tiOk_mk info88 rfl rfl rfl (by decide) (⟨_, Try.underlying88, fun _ h => TypeDesc.noConfusion h, fun _ _ h => TypeDesc.noConfusion h⟩) (by decide) (fun h => absurd rfl h)
theorem info89 : (Try.prog.info? 89).map (fun i => (i.zero, i.size, i.bytes)) = some (some (.nilFunc), 1, 8) := by kernel_rfl
theorem ti89 : TiOk Try.prog 89 { size := 1, bytes := 8, zero := [.nilFunc], kind := .cell } := tiOk_mk info89 rfl rfl rfl (by decide) (⟨_, Try.underlying89, fun _ h => TypeDesc.noConfusion h, fun _ _ h => TypeDesc.noConfusion h⟩) (by decide) (fun h => absurd rfl h)
theorem info90 : (Try.prog.info? 90).map (fun i => (i.zero, i.size, i.bytes)) = some (some (.nilFunc), 1, 8) := by kernel_rfl
theorem ti90 : TiOk Try.prog 90 { size := 1, bytes := 8, zero := [.nilFunc], kind := .cell } := tiOk_mk info90 rfl rfl rfl (by decide) (⟨_, Try.underlying90, fun _ h => TypeDesc.noConfusion h, fun _ _ h => TypeDesc.noConfusion h⟩) (by decide) (fun h => absurd rfl h)
theorem info91 : (Try.prog.info? 91).map (fun i => (i.zero, i.size, i.bytes)) = some (some (.nilFunc), 1, 8) := by kernel_rfl
theorem ti91 : TiOk Try.prog 91 { size := 1, bytes := 8, zero := [.nilFunc], kind := .cell } := tiOk_mk info91 rfl rfl rfl (by decide) (⟨_, Try.underlying91, fun _ h => TypeDesc.noConfusion h, fun _ _ h => TypeDesc.noConfusion h⟩) (by decide) (fun h => absurd rfl h)
theorem info92 : (Try.prog.info? 92).map (fun i => (i.zero, i.size, i.bytes)) = some (some (.nilFunc), 1, 8) := by kernel_rfl
theorem ti92 : TiOk Try.prog 92 { size := 1, bytes := 8, zero := [.nilFunc], kind := .cell } := tiOk_mk info92 rfl rfl rfl (by decide) (⟨_, Try.underlying92, fun _ h => TypeDesc.noConfusion h, fun _ _ h => TypeDesc.noConfusion h⟩) (by decide) (fun h => absurd rfl h)
theorem info93 : (Try.prog.info? 93).map (fun i => (i.zero, i.size, i.bytes)) = some (some (.nilFunc), 1, 8) := by kernel_rfl
theorem ti93 : TiOk Try.prog 93 { size := 1, bytes := 8, zero := [.nilFunc], kind := .cell } := tiOk_mk info93 rfl rfl rfl (by decide) (⟨_, Try.underlying93, fun _ h => TypeDesc.noConfusion h, fun _ _ h => TypeDesc.noConfusion h⟩) (by decide) (fun h => absurd rfl h)
theorem info94 : (Try.prog.info? 94).map (fun i => (i.zero, i.size, i.bytes)) = some (some (.nilFunc), 1, 8) := by kernel_rfl
theorem ti94 : TiOk Try.prog 94 { size := 1, bytes := 8, zero := [.nilFunc], kind := .cell } := tiOk_mk info94 rfl rfl rfl (by decide) (⟨_, Try.underlying94, fun _ h => TypeDesc.noConfusion h, fun _ _ h => TypeDesc.noConfusion h⟩) (by decide) (fun h => absurd rfl h)
theorem info95 : (Try.prog.info? 95).map (fun i => (i.zero, i.size, i.bytes)) = some (some (.nilFunc), 1, 8) := by kernel_rfl
theorem ti95 : TiOk Try.prog 95 { size := 1, bytes := 8, zero := [.nilFunc], kind := .cell } := tiOk_mk info95 rfl rfl rfl (by decide) (⟨_, Try.underlying95, fun _ h => TypeDesc.noConfusion h, fun _ _ h => TypeDesc.noConfusion h⟩) (by decide) (fun h => absurd rfl h)
theorem info96 : (Try.prog.info? 96).map (fun i => (i.zero, i.size, i.bytes)) = some (some (.nilFunc), 1, 8) := by kernel_rfl
theorem ti96 : TiOk Try.prog 96 { size := 1, bytes := 8, zero := [.nilFunc], kind := .cell } := tiOk_mk info96 rfl rfl rfl (by decide) (⟨_, Try.underlying96, fun _ h => TypeDesc.noConfusion h, fun _ _ h => TypeDesc.noConfusion h⟩) (by decide) (fun h => absurd rfl h)
theorem info97 : (Try.prog.info? 97).map (fun i => (i.zero, i.size, i.bytes)) = some (some (.nilFunc), 1, 8) := by kernel_rfl
theorem ti97 : TiOk Try.prog 97 { size := 1, bytes := 8, zero := [.nilFunc], kind := .cell } := tiOk_mk info97 rfl rfl rfl (by decide) (⟨_, Try.underlying97, fun _ h => TypeDesc.noConfusion h, fun _ _ h => TypeDesc.noConfusion h⟩) (by decide) (fun h => absurd rfl h)
theorem info98 : (Try.prog.info? 98).map (fun i => (i.zero, i.size, i.bytes)) = some (some (.nilFunc), 1, 8) := by kernel_rfl
theorem ti98 : TiOk Try.prog 98 { size := 1, bytes := 8, zero := [.nilFunc], kind := .cell } := tiOk_mk info98 rfl rfl rfl (by decide) (⟨_, Try.underlying98, fun _ h => TypeDesc.noConfusion h, fun _ _ h => TypeDesc.noConfusion h⟩) (by decide) (fun h => absurd rfl h)
theorem info99 : (Try.prog.info? 99).map (fun i => (i.zero, i.size, i.bytes)) = some (some (.nilFunc), 1, 8) := by kernel_rfl
theorem ti99 : TiOk Try.prog 99 { size := 1, bytes := 8, zero := [.nilFunc], kind := .cell } := tiOk_mk info99 rfl rfl rfl (by decide) (⟨_, Try.underlying99, fun _ h => TypeDesc.noConfusion h, fun _ _ h => TypeDesc.noConfusion h⟩) (by decide) (fun h => absurd rfl h)
theorem info100 : (Try.prog.info? 100).map (fun i => (i.zero, i.size, i.bytes)) = some (some (.nilFunc), 1, 8) := by kernel_rfl
theorem ti100 : TiOk Try.prog 100 { size := 1, bytes := 8, zero := [.nilFunc], kind := .cell } := tiOk_mk info100 rfl rfl rfl (by decide) (⟨_, Try.underlying100, fun _ h => TypeDesc.noConfusion h, fun _ _ h => TypeDesc.noConfusion h⟩) (by decide) (fun h => absurd rfl h)
theorem info102 : (Try.prog.info? 102).map (fun i => (i.zero, i.size, i.bytes)) = some (some (.nilFunc), 1, 8) := by kernel_rfl
theorem ti102 : TiOk Try.prog 102 { size := 1, bytes := 8, zero := [.nilFunc], kind := .cell } := tiOk_mk info102 rfl rfl rfl (by decide) (⟨_, Try.underlying102, fun _ h => TypeDesc.noConfusion h, fun _ _ h => TypeDesc.noConfusion h⟩) (by decide) (fun h => absurd rfl h)
theorem info103 : (Try.prog.info? 103).map (fun i => (i.zero, i.size, i.bytes)) = some (some (.nilFunc), 1, 8) := by kernel_rfl
theorem ti103 : TiOk Try.prog 103 { size := 1, bytes := 8, zero := [.nilFunc], kind := .cell } := tiOk_mk info103 rfl rfl rfl (by decide) (⟨_, Try.underlying103, fun _ h => TypeDesc.noConfusion h, fun _ _ h => TypeDesc.noConfusion h⟩) (by decide) (fun h => absurd rfl h)
theorem info104 : (Try.prog.info? 104).map (fun i => (i.zero, i.size, i.bytes)) = some (some (.nilFunc), 1, 8) := by kernel_rfl
theorem ti104 : TiOk Try.prog 104 { size := 1, bytes := 8, zero := [.nilFunc], kind := .cell } := tiOk_mk info104 rfl rfl rfl (by decide) (⟨_, Try.underlying104, fun _ h => TypeDesc.noConfusion h, fun _ _ h => TypeDesc.noConfusion h⟩) (by decide) (fun h => absurd rfl h)
theorem info105 : (Try.prog.info? 105).map (fun i => (i.zero, i.size, i.bytes)) = some (some (.nilFunc), 1, 8) := by kernel_rfl
theorem ti105 : TiOk Try.prog 105 { size := 1, bytes := 8, zero := [.nilFunc], kind := .cell } := tiOk_mk info105 rfl rfl rfl (by decide) (⟨_, Try.underlying105, fun _ h => TypeDesc.noConfusion h, fun _ _ h => TypeDesc.noConfusion h⟩) (by decide) (fun h => absurd rfl h)
theorem info106 : (Try.prog.info? 106).map (fun i => (i.zero, i.size, i.bytes)) = some (some (.nilFunc), 1, 8) := by kernel_rfl
theorem ti106 : TiOk Try.prog 106 { size := 1, bytes := 8, zero := [.nilFunc], kind := .cell } := tiOk_mk info106 rfl rfl rfl (by decide) (⟨_, Try.underlying106, fun _ h => TypeDesc.noConfusion h, fun _ _ h => TypeDesc.noConfusion h⟩) (by decide) (fun h => absurd rfl h)
theorem info107 : (Try.prog.info? 107).map (fun i => (i.zero, i.size, i.bytes)) = some (some (.nilFunc), 1, 8) := by kernel_rfl
theorem ti107 : TiOk Try.prog 107 { size := 1, bytes := 8, zero := [.nilFunc], kind := .cell } := tiOk_mk info107 rfl rfl rfl (by decide) (⟨_, Try.underlying107, fun _ h => TypeDesc.noConfusion h, fun _ _ h => TypeDesc.noConfusion h⟩) (by decide) (fun h => absurd rfl h)
theorem info108 : (Try.prog.info? 108).map (fun i => (i.zero, i.size, i.bytes)) = some (some (.nilFunc), 1, 8) := by kernel_rfl
theorem ti108 : TiOk Try.prog 108 { size := 1, bytes := 8, zero := [.nilFunc], kind := .cell } := tiOk_mk info108 rfl rfl rfl (by decide) (⟨_, Try.underlying108, fun _ h => TypeDesc.noConfusion h, fun _ _ h => TypeDesc.noConfusion h⟩) (by decide) (fun h => absurd rfl h)
theorem info109 : (Try.prog.info? 109).map (fun i => (i.zero, i.size, i.bytes)) = some (some (.nilFunc), 1, 8) := by kernel_rfl
theorem ti109 : TiOk Try.prog 109 { size := 1, bytes := 8, zero := [.nilFunc], kind := .cell } := tiOk_mk info109 rfl rfl rfl (by decide) (⟨_, Try.underlying109, fun _ h => TypeDesc.noConfusion h, fun _ _ h => TypeDesc.noConfusion h⟩) (by decide) (fun h => absurd rfl h)
theorem info110 : (Try.prog.info? 110).map (fun i => (i.zero, i.size, i.bytes)) = some (some (.nilFunc), 1, 8) := by kernel_rfl
theorem ti110 : TiOk Try.prog 110 { size := 1, bytes := 8, zero := [.nilFunc], kind := .cell } := tiOk_mk info110 rfl rfl rfl (by decide) (⟨_, Try.underlying110, fun _ h => TypeDesc.noConfusion h, fun _ _ h => TypeDesc.noConfusion h⟩) (by decide) (fun h => absurd rfl h)
theorem info111 : (Try.prog.info? 111).map (fun i => (i.zero, i.size, i.bytes)) = some (some (.nilFunc), 1, 8) := by kernel_rfl
theorem ti111 : TiOk Try.prog 111 { size := 1, bytes := 8, zero := [.nilFunc], kind := .cell } := tiOk_mk info111 rfl rfl rfl (by decide) (⟨_, Try.underlying111, fun _ h => TypeDesc.noConfusion h, fun _ _ h => TypeDesc.noConfusion h⟩) (by decide) (fun h => absurd rfl h)
theorem info112 : (Try.prog.info? 112).map (fun i => (i.zero, i.size, i.bytes)) = some (some (.nilFunc), 1, 8) := by kernel_rfl
theorem ti112 : TiOk Try.prog 112 { size := 1, bytes := 8, zero := [.nilFunc], kind := .cell } := tiOk_mk info112 rfl rfl rfl (by decide) (⟨_, Try.underlying112, fun _ h => TypeDesc.noConfusion h, fun _ _ h => TypeDesc.noConfusion h⟩) (by decide) (fun h => absurd rfl h)
theorem info113 : (Try.prog.info? 113).map (fun i => (i.zero, i.size, i.bytes)) = some (some (.nilFunc), 1, 8) := by kernel_rfl
theorem ti113 : TiOk Try.prog 113 { size := 1, bytes := 8, zero := [.nilFunc], kind := .cell } := tiOk_mk info113 rfl rfl rfl (by decide) (⟨_, Try.underlying113, fun _ h => TypeDesc.noConfusion h, fun _ _ h => TypeDesc.noConfusion h⟩) (by decide) (fun h => absurd rfl h)
theorem info114 : (Try.prog.info? 114).map (fun i => (i.zero, i.size, i.bytes)) = some (some (.nilFunc), 1, 8) := by kernel_rfl
theorem ti114 : TiOk Try.prog 114 { size := 1, bytes := 8, zero := [.nilFunc], kind := .cell } := tiOk_mk info114 rfl rfl rfl (by decide) (⟨_, Try.underlying114, fun _ h => TypeDesc.noConfusion h, fun _ _ h => TypeDesc.noConfusion h⟩) (by decide) (fun h => absurd rfl h)
theorem info115 : (Try.prog.info? 115).map (fun i => (i.zero, i.size, i.bytes)) = some (some (.map none), 1, 8) := by kernel_rfl
theorem ti115 : TiOk Try.prog 115 { size := 1, bytes := 8, zero := [.map none], kind := .cell } := tiOk_mk info115 rfl rfl rfl (by decide) (⟨_, Try.underlying115, fun _ h => TypeDesc.noConfusion h, fun _ _ h => TypeDesc.noConfusion h⟩) (by decide) (fun h => absurd rfl h)
theorem info116 : (Try.prog.info? 116).map (fun i => (i.zero, i.size, i.bytes)) = some (some (.nilFunc), 1, 8) := by kernel_rfl
theorem ti116 : TiOk Try.prog 116 { size := 1, bytes := 8, zero := [.nilFunc], kind := .cell } := tiOk_mk info116 rfl rfl rfl (by decide) (⟨_, Try.underlying116, fun _ h => TypeDesc.noConfusion h, fun _ _ h => TypeDesc.noConfusion h⟩) (by decide) (fun h => absurd rfl h)
theorem info117 : (Try.prog.info? 117).map (fun i => (i.zero, i.size, i.bytes)) = some (some (.nilFunc), 1, 8) := by kernel_rfl
theorem ti117 : TiOk Try.prog 117 { size := 1, bytes := 8, zero := [.nilFunc], kind := .cell } := tiOk_mk info117 rfl rfl rfl (by decide) (⟨_, Try.underlying117, fun _ h => TypeDesc.noConfusion h, fun _ _ h => TypeDesc.noConfusion h⟩) (by decide) (fun h => absurd rfl h)
theorem info118 : (Try.prog.info? 118).map (fun i => (i.zero, i.size, i.bytes)) = some (some (.nilFunc), 1, 8) := by kernel_rfl
theorem ti118 : TiOk Try.prog 118 { size := 1, bytes := 8, zero := [.nilFunc], kind := .cell } := tiOk_mk info118 rfl rfl rfl (by decide) (⟨_, Try.underlying118, fun _ h => TypeDesc.noConfusion h, fun _ _ h => TypeDesc.noConfusion h⟩) (by decide) (fun h => absurd rfl h)
theorem info119 : (Try.prog.info? 119).map (fun i => (i.zero, i.size, i.bytes)) = some (some (.nilFunc), 1, 8) := by kernel_rfl
theorem ti119 : TiOk Try.prog 119 { size := 1, bytes := 8, zero := [.nilFunc], kind := .cell } := tiOk_mk info119 rfl rfl rfl (by decide) (⟨_, Try.underlying119, fun _ h => TypeDesc.noConfusion h, fun _ _ h => TypeDesc.noConfusion h⟩) (by decide) (fun h => absurd rfl h)
theorem info120 : (Try.prog.info? 120).map (fun i => (i.zero, i.size, i.bytes)) = some (some (.nilFunc), 1, 8) := by kernel_rfl
theorem ti120 : TiOk Try.prog 120 { size := 1, bytes := 8, zero := [.nilFunc], kind := .cell } := tiOk_mk info120 rfl rfl rfl (by decide) (⟨_, Try.underlying120, fun _ h => TypeDesc.noConfusion h, fun _ _ h => TypeDesc.noConfusion h⟩) (by decide) (fun h => absurd rfl h)
theorem info121 : (Try.prog.info? 121).map (fun i => (i.zero, i.size, i.bytes)) = some (some (.nilFunc), 1, 8) := by kernel_rfl
theorem ti121 : TiOk Try.prog 121 { size := 1, bytes := 8, zero := [.nilFunc], kind := .cell } := tiOk_mk info121 rfl rfl rfl (by decide) (⟨_, Try.underlying121, fun _ h => TypeDesc.noConfusion h, fun _ _ h => TypeDesc.noConfusion h⟩) (by decide) (fun h => absurd rfl h)
theorem info122 : (Try.prog.info? 122).map (fun i => (i.zero, i.size, i.bytes)) = some (some (.nilFunc), 1, 8) := by kernel_rfl
theorem ti122 : TiOk Try.prog 122 { size := 1, bytes := 8, zero := [.nilFunc], kind := .cell } := tiOk_mk info122 rfl rfl rfl (by decide) (⟨_, Try.underlying122, fun _ h => TypeDesc.noConfusion h, fun _ _ h => TypeDesc.noConfusion h⟩) (by decide) (fun h => absurd rfl h)
theorem info123 : (Try.prog.info? 123).map (fun i => (i.zero, i.size, i.bytes)) = some (some (.nilFunc), 1, 8) := by kernel_rfl
theorem ti123 : TiOk Try.prog 123 { size := 1, bytes := 8, zero := [.nilFunc], kind := .cell } := tiOk_mk info123 rfl rfl rfl (by decide) (⟨_, Try.underlying123, fun _ h => TypeDesc.noConfusion h, fun _ _ h => TypeDesc.noConfusion h⟩) (by decide) (fun h => absurd rfl h)
theorem info124 : (Try.prog.info? 124).map (fun i => (i.zero, i.size, i.bytes)) = some (some (.agg #[.bool false, .bool false, .bool false, .bool false, .bool false, .bool false, .bool false, .bool false, .bool false, .bool false, .bool false, .bool false]), 12, 12) := by kernel_rfl
theorem ti124 : TiOk Try.prog 124 { size := 12, bytes := 12, zero := [.bool false, .bool false, .bool false, .bool false, .bool false, .bool false, .bool false, .bool false, .bool false, .bool false, .bool false, .bool false], kind := .array 12 4 } := tiOk_mk info124 rfl rfl rfl (by decide) (Try.underlying124) (by decide) (fun h => absurd rfl h)
theorem info125 : (Try.prog.info? 125).map (fun i => (i.zero, i.size, i.bytes)) = some (some (.slice none 0 0), 1, 24) := by kernel_rfl
theorem ti125 : TiOk Try.prog 125 { size := 1, bytes := 24, zero := [.slice none 0 0], kind := .slice 4 } := tiOk_mk info125 rfl rfl rfl (by decide) (Try.underlying125) (by decide) (fun h => absurd rfl h)
theorem info126 : (Try.prog.info? 126).map (fun i => (i.zero, i.size, i.bytes)) = some (some (.nilFunc), 1, 8) := by kernel_rfl
theorem ti126 : TiOk Try.prog 126 { size := 1, bytes := 8, zero := [.nilFunc], kind := .cell } := tiOk_mk info126 rfl rfl rfl (by decide) (⟨_, Try.underlying126, fun _ h => TypeDesc.noConfusion h, fun _ _ h => TypeDesc.noConfusion h⟩) (by decide) (fun h => absurd rfl h)
theorem info127 : (Try.prog.info? 127).map (fun i => (i.zero, i.size, i.bytes)) = some (some (.nilFunc), 1, 8) := by kernel_rfl
theorem ti127 : TiOk Try.prog 127 { size := 1, bytes := 8, zero := [.nilFunc], kind := .cell } := tiOk_mk info127 rfl rfl rfl (by decide) (⟨_, Try.underlying127, fun _ h => TypeDesc.noConfusion h, fun _ _ h => TypeDesc.noConfusion h⟩) (by decide) (fun h => absurd rfl h)
theorem info133 : (Try.prog.info? 133).map (fun i => (i.zero, i.size, i.bytes)) = some (some (.nilFunc), 1, 8) := by kernel_rfl
theorem ti133 : TiOk Try.prog 133 { size := 1, bytes := 8, zero := [.nilFunc], kind := .cell } := tiOk_mk info133 rfl rfl rfl (by decide) (⟨_, Try.underlying133, fun _ h => TypeDesc.noConfusion h, fun _ _ h => TypeDesc.noConfusion h⟩) (by decide) (fun h => absurd rfl h)
theorem info134 : (Try.prog.info? 134).map (fun i => (i.zero, i.size, i.bytes)) = some (some (.int .u8 0), 1, 1) := by kernel_rfl
theorem ti134 : TiOk Try.prog 134 { size := 1, bytes := 1, zero := [.int .u8 0], kind := .int .u8 } := tiOk_mk info134 rfl rfl rfl (by decide) (Try.underlying134) (by decide) (fun h => absurd rfl h)
theorem info135 : (Try.prog.info? 135).map (fun i => (i.zero, i.size, i.bytes)) = some (some (.int .u8 0), 1, 1) := by kernel_rfl
theorem ti135 : TiOk Try.prog 135 { size := 1, bytes := 1, zero := [.int .u8 0], kind := .int .u8 } := tiOk_mk info135 rfl rfl rfl (by decide) (Try.underlying135) (by decide) (fun h => absurd rfl h)
theorem info136 : (Try.prog.info? 136).map (fun i => (i.zero, i.size, i.bytes)) = some (some (.nilFunc), 1, 8) := by kernel_rfl
theorem ti136 : TiOk Try.prog 136 { size := 1, bytes := 8, zero := [.nilFunc], kind := .cell } := tiOk_mk info136 rfl rfl rfl (by decide) (⟨_, Try.underlying136, fun _ h => TypeDesc.noConfusion h, fun _ _ h => TypeDesc.noConfusion h⟩) (by decide) (fun h => absurd rfl h)
theorem info137 : (Try.prog.info? 137).map (fun i => (i.zero, i.size, i.bytes)) = some (some (.pointer none), 1, 8) := by kernel_rfl
theorem ti137 : TiOk Try.prog 137 { size := 1, bytes := 8, zero := [.pointer none], kind := .cell } := tiOk_mk info137 rfl rfl rfl (by decide) (⟨_, Try.underlying137, fun _ h => TypeDesc.noConfusion h, fun _ _ h => TypeDesc.noConfusion h⟩) (by decide) (fun h => absurd rfl h)
theorem info138 : (Try.prog.info? 138).map (fun i => (i.zero, i.size, i.bytes)) = some (some (.int .i32 0), 1, 4) := by kernel_rfl
theorem ti138 : TiOk Try.prog 138 { size := 1, bytes := 4, zero := [.int .i32 0], kind := .int .i32 } := tiOk_mk info138 rfl rfl rfl (by decide) (Try.underlying138) (by decide) (fun h => absurd rfl h)
theorem info139 : (Try.prog.info? 139).map (fun i => (i.zero, i.size, i.bytes)) = some (some (.int .i32 0), 1, 4) := by kernel_rfl
theorem ti139 : TiOk Try.prog 139 { size := 1, bytes := 4, zero := [.int .i32 0], kind := .int .i32 } := tiOk_mk info139 rfl rfl rfl (by decide) (Try.underlying139) (by decide) (fun h => absurd rfl h)
theorem info140 : (Try.prog.info? 140).map (fun i => (i.zero, i.size, i.bytes)) = some (some (.agg #[.int .u64 0, .int .u64 0, .int .u32 0, .int .u8 0, .int .u8 0, .int .u8 0, .int .u8 0, .nilFunc, .pointer none, .int .i32 0, .int .i32 0]), 11, 48) := by kernel_rfl
theorem ti140 : TiOk Try.prog 140 { size := 11, bytes := 48, zero := [.int .u64 0, .int .u64 0, .int .u32 0, .int .u8 0, .int .u8 0, .int .u8 0, .int .u8 0, .nilFunc, .pointer none, .int .i32 0, .int .i32 0], kind := .struct [(0, 12), (1, 12), (2, 54), (3, 134), (4, 5), (5, 5), (6, 135), (7, 136), (8, 137), (9, 138), (10, 139)] } := tiOk_mk info140 rfl rfl rfl (by decide) (⟨_, Try.underlying140, rfl⟩) (by decide) (fun h => absurd rfl h)
theorem info141 : (Try.prog.info? 141).map (fun i => (i.zero, i.size, i.bytes)) = some (some (.agg #[.int .u64 0, .int .u64 0, .int .u32 0, .int .u8 0, .int .u8 0, .int .u8 0, .int .u8 0, .nilFunc, .pointer none, .int .i32 0, .int .i32 0]), 11, 48) := by kernel_rfl
theorem ti141 : TiOk Try.prog 141 { size := 11, bytes := 48, zero := [.int .u64 0, .int .u64 0, .int .u32 0, .int .u8 0, .int .u8 0, .int .u8 0, .int .u8 0, .nilFunc, .pointer none, .int .i32 0, .int .i32 0], kind := .struct [(0, 12), (1, 12), (2, 54), (3, 134), (4, 5), (5, 5), (6, 135), (7, 136), (8, 137), (9, 138), (10, 139)] } := tiOk_mk info141 rfl rfl rfl (by decide) (⟨_, Try.underlying141, rfl⟩) (by decide) (fun h => absurd rfl h)
def TB : Tab
  | 1 => some { size := 1, bytes := 8, zero := [.nilFunc], kind := .cell }
  | 2 => some { size := 1, bytes := 8, zero := [.int .i64 0], kind := .int .i64 }
  | 3 => some { size := 1, bytes := 8, zero := [.int .i64 0], kind := .int .i64 }
  | 4 => some { size := 1, bytes := 1, zero := [.bool false], kind := .bool }
  | 5 => some { size := 1, bytes := 1, zero := [.int .u8 0], kind := .int .u8 }
  | 6 => some { size := 1, bytes := 1, zero := [.int .u8 0], kind := .int .u8 }
  | 7 => some { size := 4, bytes := 24, zero := [.int .i64 0, .int .i64 0, .bool false, .int .u8 0], kind := .struct [(0, 2), (1, 3), (2, 4), (3, 6)] }
  | 8 => some { size := 4, bytes := 24, zero := [.int .i64 0, .int .i64 0, .bool false, .int .u8 0], kind := .struct [(0, 2), (1, 3), (2, 4), (3, 6)] }
  | 12 => some { size := 1, bytes := 8, zero := [.int .u64 0], kind := .int .u64 }
  | 15 => some { size := 1, bytes := 8, zero := [.pointer none], kind := .cell }
  | 16 => some { size := 1, bytes := 8, zero := [.pointer none], kind := .cell }
  | 17 => some { size := 1, bytes := 8, zero := [.pointer none], kind := .cell }
  | 18 => some { size := 1, bytes := 8, zero := [.pointer none], kind := .struct [(0, 17)] }
  | 19 => some { size := 1, bytes := 8, zero := [.pointer none], kind := .struct [(0, 17)] }
  | 21 => some { size := 1, bytes := 4, zero := [.int .i32 0], kind := .int .i32 }
  | 22 => some { size := 2, bytes := 16, zero := [.int .i64 0, .int .i64 0], kind := .struct [(0, 2), (1, 2)], eqk := [.i64, .i64] }
  | 23 => some { size := 2, bytes := 16, zero := [.int .i64 0, .int .i64 0], kind := .struct [(0, 2), (1, 2)], eqk := [.i64, .i64] }
  | 24 => some { size := 5, bytes := 40, zero := [.int .i64 0, .int .i64 0, .int .i64 0, .int .i64 0, .int .i64 0], kind := .struct [(0, 2), (1, 2), (2, 2), (3, 23)] }
  | 25 => some { size := 5, bytes := 40, zero := [.int .i64 0, .int .i64 0, .int .i64 0, .int .i64 0, .int .i64 0], kind := .struct [(0, 2), (1, 2), (2, 2), (3, 23)] }
  | 26 => some { size := 1, bytes := 24, zero := [.slice none 0 0], kind := .slice 2 }
  | 27 => some { size := 1, bytes := 8, zero := [.nilFunc], kind := .cell }
  | 28 => some { size := 1, bytes := 8, zero := [.nilFunc], kind := .cell }
  | 29 => some { size := 1, bytes := 8, zero := [.int .i64 0], kind := .int .i64 }
  | 31 => some { size := 1, bytes := 8, zero := [.nilFunc], kind := .cell }
  | 33 => some { size := 1, bytes := 8, zero := [.nilFunc], kind := .cell }
  | 34 => some { size := 1, bytes := 8, zero := [.nilFunc], kind := .cell }
  | 35 => some { size := 1, bytes := 8, zero := [.nilFunc], kind := .cell }
  | 36 => some { size := 1, bytes := 24, zero := [.slice none 0 0], kind := .slice 59 }
  | 37 => some { size := 1, bytes := 8, zero := [.nilFunc], kind := .cell }
  | 38 => some { size := 1, bytes := 8, zero := [.nilFunc], kind := .cell }
  | 39 => some { size := 1, bytes := 8, zero := [.nilFunc], kind := .cell }
  | 41 => some { size := 1, bytes := 8, zero := [.nilFunc], kind := .cell }
  | 43 => some { size := 1, bytes := 8, zero := [.nilFunc], kind := .cell }
  | 44 => some { size := 1, bytes := 8, zero := [.nilFunc], kind := .cell }
  | 45 => some { size := 1, bytes := 8, zero := [.nilFunc], kind := .cell }
  | 46 => some { size := 1, bytes := 8, zero := [.nilFunc], kind := .cell }
  | 47 => some { size := 1, bytes := 8, zero := [.nilFunc], kind := .cell }
  | 48 => some { size := 1, bytes := 8, zero := [.nilFunc], kind := .cell }
  | 49 => some { size := 1, bytes := 24, zero := [.slice none 0 0], kind := .slice 3 }
  | 51 => some { size := 1, bytes := 8, zero := [.nilFunc], kind := .cell }
  | 52 => some { size := 1, bytes := 8, zero := [.nilFunc], kind := .cell }
  | 53 => some { size := 1, bytes := 8, zero := [.nilFunc], kind := .cell }
  | 54 => some { size := 1, bytes := 4, zero := [.int .u32 0], kind := .int .u32 }
  | 55 => some { size := 1, bytes := 24, zero := [.slice none 0 0], kind := .slice 36 }
  | 56 => some { size := 1, bytes := 8, zero := [.nilFunc], kind := .cell }
  | 57 => some { size := 1, bytes := 8, zero := [.nilFunc], kind := .cell }
  | 58 => some { size := 2, bytes := 16, zero := [.int .i64 0, .int .i64 0], kind := .struct [(0, 2), (1, 3)], eqk := [.i64, .i64] }
  | 59 => some { size := 2, bytes := 16, zero := [.int .i64 0, .int .i64 0], kind := .struct [(0, 2), (1, 3)], eqk := [.i64, .i64] }
  | 60 => some { size := 1, bytes := 8, zero := [.nilFunc], kind := .cell }
  | 61 => some { size := 1, bytes := 8, zero := [.nilFunc], kind := .cell }
  | 62 => some { size := 2, bytes := 8, zero := [.int .u32 0, .int .u32 0], kind := .array 2 54, eqk := [.u32, .u32] }
  | 63 => some { size := 1, bytes := 2, zero := [.int .u16 0], kind := .int .u16 }
  | 64 => some { size := 3, bytes := 6, zero := [.int .u16 0, .int .u16 0, .int .u16 0], kind := .array 3 63, eqk := [.u16, .u16, .u16] }
  | 66 => some { size := 1, bytes := 8, zero := [.nilFunc], kind := .cell }
  | 67 => some { size := 1, bytes := 8, zero := [.nilFunc], kind := .cell }
  | 68 => some { size := 1, bytes := 24, zero := [.slice none 0 0], kind := .slice 25 }
  | 69 => some { size := 1, bytes := 8, zero := [.nilFunc], kind := .cell }
  | 70 => some { size := 1, bytes := 8, zero := [.nilFunc], kind := .cell }
  | 71 => some { size := 1, bytes := 8, zero := [.nilFunc], kind := .cell }
  | 72 => some { size := 1, bytes := 8, zero := [.nilFunc], kind := .cell }
  | 73 => some { size := 1, bytes := 8, zero := [.nilFunc], kind := .cell }
  | 74 => some { size := 1, bytes := 24, zero := [.slice none 0 0], kind := .slice 23 }
  | 75 => some { size := 1, bytes := 8, zero := [.nilFunc], kind := .cell }
  | 76 => some { size := 1, bytes := 8, zero := [.pointer none], kind := .cell }
  | 78 => some { size := 1, bytes := 8, zero := [.nilFunc], kind := .cell }
  | 79 => some { size := 1, bytes := 8, zero := [.nilFunc], kind := .cell }
  | 80 => some { size := 24, bytes := 192, zero := [.int .i64 0, .int .i64 0, .int .i64 0, .int .i64 0, .int .i64 0, .int .i64 0, .int .i64 0, .int .i64 0, .int .i64 0, .int .i64 0, .int .i64 0, .int .i64 0, .int .i64 0, .int .i64 0, .int .i64 0, .int .i64 0, .int .i64 0, .int .i64 0, .int .i64 0, .int .i64 0, .int .i64 0, .int .i64 0, .int .i64 0, .int .i64 0], kind := .array 12 23 }
  | 81 => some { size := 24, bytes := 192, zero := [.int .i64 0, .int .i64 0, .int .i64 0, .int .i64 0, .int .i64 0, .int .i64 0, .int .i64 0, .int .i64 0, .int .i64 0, .int .i64 0, .int .i64 0, .int .i64 0, .int .i64 0, .int .i64 0, .int .i64 0, .int .i64 0, .int .i64 0, .int .i64 0, .int .i64 0, .int .i64 0, .int .i64 0, .int .i64 0, .int .i64 0, .int .i64 0], kind := .array 12 23 }
  | 82 => some { size := 30, bytes := 256, zero := [.int .i64 0, .int .i64 0, .int .i64 0, .int .i64 0, .int .i64 0, .slice none 0 0, .int .i64 0, .int .i64 0, .int .i64 0, .int .i64 0, .int .i64 0, .int .i64 0, .int .i64 0, .int .i64 0, .int .i64 0, .int .i64 0, .int .i64 0, .int .i64 0, .int .i64 0, .int .i64 0, .int .i64 0, .int .i64 0, .int .i64 0, .int .i64 0, .int .i64 0, .int .i64 0, .int .i64 0, .int .i64 0, .int .i64 0, .int .i64 0], kind := .struct [(0, 25), (5, 26), (6, 81)] }
  | 83 => some { size := 30, bytes := 256, zero := [.int .i64 0, .int .i64 0, .int .i64 0, .int .i64 0, .int .i64 0, .slice none 0 0, .int .i64 0, .int .i64 0, .int .i64 0, .int .i64 0, .int .i64 0, .int .i64 0, .int .i64 0, .int .i64 0, .int .i64 0, .int .i64 0, .int .i64 0, .int .i64 0, .int .i64 0, .int .i64 0, .int .i64 0, .int .i64 0, .int .i64 0, .int .i64 0, .int .i64 0, .int .i64 0, .int .i64 0, .int .i64 0, .int .i64 0, .int .i64 0], kind := .struct [(0, 25), (5, 26), (6, 81)] }
  | 84 => some { size := 1, bytes := 8, zero := [.nilFunc], kind := .cell }
  | 86 => some { size := 1, bytes := 8, zero := [.nilFunc], kind := .cell }
  | 87 => some { size := 1, bytes := 8, zero := [.nilFunc], kind := .cell }
  | 88 => some { size := 1, bytes := 8, zero := [.nilFunc], kind := .cell }
  | 89 => some { size := 1, bytes := 8, zero := [.nilFunc], kind := .cell }
  | 90 => some { size := 1, bytes := 8, zero := [.nilFunc], kind := .cell }
  | 91 => some { size := 1, bytes := 8, zero := [.nilFunc], kind := .cell }
  | 92 => some { size := 1, bytes := 8, zero := [.nilFunc], kind := .cell }
  | 93 => some { size := 1, bytes := 8, zero := [.nilFunc], kind := .cell }
  | 94 => some { size := 1, bytes := 8, zero := [.nilFunc], kind := .cell }
  | 95 => some { size := 1, bytes := 8, zero := [.nilFunc], kind := .cell }
  | 96 => some { size := 1, bytes := 8, zero := [.nilFunc], kind := .cell }
  | 97 => some { size := 1, bytes := 8, zero := [.nilFunc], kind := .cell }
  | 98 => some { size := 1, bytes := 8, zero := [.nilFunc], kind := .cell }
  | 99 => some { size := 1, bytes := 8, zero := [.nilFunc], kind := .cell }
  | 100 => some { size := 1, bytes := 8, zero := [.nilFunc], kind := .cell }
  | 102 => some { size := 1, bytes := 8, zero := [.nilFunc], kind := .cell }
  | 103 => some { size := 1, bytes := 8, zero := [.nilFunc], kind := .cell }
  | 104 => some { size := 1, bytes := 8, zero := [.nilFunc], kind := .cell }
  | 105 => some { size := 1, bytes := 8, zero := [.nilFunc], kind := .cell }
  | 106 => some { size := 1, bytes := 8, zero := [.nilFunc], kind := .cell }
  | 107 => some { size := 1, bytes := 8, zero := [.nilFunc], kind := .cell }
  | 108 => some { size := 1, bytes := 8, zero := [.nilFunc], kind := .cell }
  | 109 => some { size := 1, bytes := 8, zero := [.nilFunc], kind := .cell }
  | 110 => some { size := 1, bytes := 8, zero := [.nilFunc], kind := .cell }
  | 111 => some { size := 1, bytes := 8, zero := [.nilFunc], kind := .cell }
  | 112 => some { size := 1, bytes := 8, zero := [.nilFunc], kind := .cell }
  | 113 => some { size := 1, bytes := 8, zero := [.nilFunc], kind := .cell }
  | 114 => some { size := 1, bytes := 8, zero := [.nilFunc], kind := .cell }
  | 115 => some { size := 1, bytes := 8, zero := [.map none], kind := .cell }
  | 116 => some { size := 1, bytes := 8, zero := [.nilFunc], kind := .cell }
  | 117 => some { size := 1, bytes := 8, zero := [.nilFunc], kind := .cell }
  | 118 => some { size := 1, bytes := 8, zero := [.nilFunc], kind := .cell }
  | 119 => some { size := 1, bytes := 8, zero := [.nilFunc], kind := .cell }
  | 120 => some { size := 1, bytes := 8, zero := [.nilFunc], kind := .cell }
  | 121 => some { size := 1, bytes := 8, zero := [.nilFunc], kind := .cell }
  | 122 => some { size := 1, bytes := 8, zero := [.nilFunc], kind := .cell }
  | 123 => some { size := 1, bytes := 8, zero := [.nilFunc], kind := .cell }
  | 124 => some { size := 12, bytes := 12, zero := [.bool false, .bool false, .bool false, .bool false, .bool false, .bool false, .bool false, .bool false, .bool false, .bool false, .bool false, .bool false], kind := .array 12 4 }
  | 125 => some { size := 1, bytes := 24, zero := [.slice none 0 0], kind := .slice 4 }
  | 126 => some { size := 1, bytes := 8, zero := [.nilFunc], kind := .cell }
  | 127 => some { size := 1, bytes := 8, zero := [.nilFunc], kind := .cell }
  | 133 => some { size := 1, bytes := 8, zero := [.nilFunc], kind := .cell }
  | 134 => some { size := 1, bytes := 1, zero := [.int .u8 0], kind := .int .u8 }
  | 135 => some { size := 1, bytes := 1, zero := [.int .u8 0], kind := .int .u8 }
  | 136 => some { size := 1, bytes := 8, zero := [.nilFunc], kind := .cell }
  | 137 => some { size := 1, bytes := 8, zero := [.pointer none], kind := .cell }
  | 138 => some { size := 1, bytes := 4, zero := [.int .i32 0], kind := .int .i32 }
  | 139 => some { size := 1, bytes := 4, zero := [.int .i32 0], kind := .int .i32 }
  | 140 => some { size := 11, bytes := 48, zero := [.int .u64 0, .int .u64 0, .int .u32 0, .int .u8 0, .int .u8 0, .int .u8 0, .int .u8 0, .nilFunc, .pointer none, .int .i32 0, .int .i32 0], kind := .struct [(0, 12), (1, 12), (2, 54), (3, 134), (4, 5), (5, 5), (6, 135), (7, 136), (8, 137), (9, 138), (10, 139)] }
  | 141 => some { size := 11, bytes := 48, zero := [.int .u64 0, .int .u64 0, .int .u32 0, .int .u8 0, .int .u8 0, .int .u8 0, .int .u8 0, .nilFunc, .pointer none, .int .i32 0, .int .i32 0], kind := .struct [(0, 12), (1, 12), (2, 54), (3, 134), (4, 5), (5, 5), (6, 135), (7, 136), (8, 137), (9, 138), (10, 139)] }
  | _ => none
@[simp] theorem TB1 : TB 1 = some { size := 1, bytes := 8, zero := [.nilFunc], kind := .cell } := rfl
@[simp] theorem TB2 : TB 2 = some { size := 1, bytes := 8, zero := [.int .i64 0], kind := .int .i64 } := rfl
@[simp] theorem TB3 : TB 3 = some { size := 1, bytes := 8, zero := [.int .i64 0], kind := .int .i64 } := rfl
@[simp] theorem TB4 : TB 4 = some { size := 1, bytes := 1, zero := [.bool false], kind := .bool } := rfl
@[simp] theorem TB5 : TB 5 = some { size := 1, bytes := 1, zero := [.int .u8 0], kind := .int .u8 } := rfl
@[simp] theorem TB6 : TB 6 = some { size := 1, bytes := 1, zero := [.int .u8 0], kind := .int .u8 } := rfl
@[simp] theorem TB7 : TB 7 = some { size := 4, bytes := 24, zero := [.int .i64 0, .int .i64 0, .bool false, .int .u8 0], kind := .struct [(0, 2), (1, 3), (2, 4), (3, 6)] } := rfl
@[simp] theorem TB8 : TB 8 = some { size := 4, bytes := 24, zero := [.int .i64 0, .int .i64 0, .bool false, .int .u8 0], kind := .struct [(0, 2), (1, 3), (2, 4), (3, 6)] } := rfl
@[simp] theorem TB12 : TB 12 = some { size := 1, bytes := 8, zero := [.int .u64 0], kind := .int .u64 } := rfl
@[simp] theorem TB15 : TB 15 = some { size := 1, bytes := 8, zero := [.pointer none], kind := .cell } := rfl
@[simp] theorem TB16 : TB 16 = some { size := 1, bytes := 8, zero := [.pointer none], kind := .cell } := rfl
@[simp] theorem TB17 : TB 17 = some { size := 1, bytes := 8, zero := [.pointer none], kind := .cell } := rfl
@[simp] theorem TB18 : TB 18 = some { size := 1, bytes := 8, zero := [.pointer none], kind := .struct [(0, 17)] } := rfl
@[simp] theorem TB19 : TB 19 = some { size := 1, bytes := 8, zero := [.pointer none], kind := .struct [(0, 17)] } := rfl
@[simp] theorem TB21 : TB 21 = some { size := 1, bytes := 4, zero := [.int .i32 0], kind := .int .i32 } := rfl
@[simp] theorem TB22 : TB 22 = some { size := 2, bytes := 16, zero := [.int .i64 0, .int .i64 0], kind := .struct [(0, 2), (1, 2)], eqk := [.i64, .i64] } := rfl
@[simp] theorem TB23 : TB 23 = some { size := 2, bytes := 16, zero := [.int .i64 0, .int .i64 0], kind := .struct [(0, 2), (1, 2)], eqk := [.i64, .i64] } := rfl
@[simp] theorem TB24 : TB 24 = some { size := 5, bytes := 40, zero := [.int .i64 0, .int .i64 0, .int .i64 0, .int .i64 0, .int .i64 0], kind := .struct [(0, 2), (1, 2), (2, 2), (3, 23)] } := rfl
@[simp] theorem TB25 : TB 25 = some { size := 5, bytes := 40, zero := [.int .i64 0, .int .i64 0, .int .i64 0, .int .i64 0, .int .i64 0], kind := .struct [(0, 2), (1, 2), (2, 2), (3, 23)] } := rfl
@[simp] theorem TB26 : TB 26 = some { size := 1, bytes := 24, zero := [.slice none 0 0], kind := .slice 2 } := rfl
@[simp] theorem TB27 : TB 27 = some { size := 1, bytes := 8, zero := [.nilFunc], kind := .cell } := rfl
@[simp] theorem TB28 : TB 28 = some { size := 1, bytes := 8, zero := [.nilFunc], kind := .cell } := rfl
@[simp] theorem TB29 : TB 29 = some { size := 1, bytes := 8, zero := [.int .i64 0], kind := .int .i64 } := rfl
@[simp] theorem TB31 : TB 31 = some { size := 1, bytes := 8, zero := [.nilFunc], kind := .cell } := rfl
@[simp] theorem TB33 : TB 33 = some { size := 1, bytes := 8, zero := [.nilFunc], kind := .cell } := rfl
@[simp] theorem TB34 : TB 34 = some { size := 1, bytes := 8, zero := [.nilFunc], kind := .cell } := rfl
@[simp] theorem TB35 : TB 35 = some { size := 1, bytes := 8, zero := [.nilFunc], kind := .cell } := rfl
@[simp] theorem TB36 : TB 36 = some { size := 1, bytes := 24, zero := [.slice none 0 0], kind := .slice 59 } := rfl
@[simp] theorem TB37 : TB 37 = some { size := 1, bytes := 8, zero := [.nilFunc], kind := .cell } := rfl
@[simp] theorem TB38 : TB 38 = some { size := 1, bytes := 8, zero := [.nilFunc], kind := .cell } := rfl
@[simp] theorem TB39 : TB 39 = some { size := 1, bytes := 8, zero := [.nilFunc], kind := .cell } := rfl
@[simp] theorem TB41 : TB 41 = some { size := 1, bytes := 8, zero := [.nilFunc], kind := .cell } := rfl
@[simp] theorem TB43 : TB 43 = some { size := 1, bytes := 8, zero := [.nilFunc], kind := .cell } := rfl
@[simp] theorem TB44 : TB 44 = some { size := 1, bytes := 8, zero := [.nilFunc], kind := .cell } := rfl
@[simp] theorem TB45 : TB 45 = some { size := 1, bytes := 8, zero := [.nilFunc], kind := .cell } := rfl
@[simp] theorem TB46 : TB 46 = some { size := 1, bytes := 8, zero := [.nilFunc], kind := .cell } := rfl
@[simp] theorem TB47 : TB 47 = some { size := 1, bytes := 8, zero := [.nilFunc], kind := .cell } := rfl
@[simp] theorem TB48 : TB 48 = some { size := 1, bytes := 8, zero := [.nilFunc], kind := .cell } := rfl
@[simp] theorem TB49 : TB 49 = some { size := 1, bytes := 24, zero := [.slice none 0 0], kind := .slice 3 } := rfl
@[simp] theorem TB51 : TB 51 = some { size := 1, bytes := 8, zero := [.nilFunc], kind := .cell } := rfl
@[simp] theorem TB52 : TB 52 = some { size := 1, bytes := 8, zero := [.nilFunc], kind := .cell } := rfl
@[simp] theorem TB53 : TB 53 = some { size := 1, bytes := 8, zero := [.nilFunc], kind := .cell } := rfl
@[simp] theorem TB54 : TB 54 = some { size := 1, bytes := 4, zero := [.int .u32 0], kind := .int .u32 } := rfl
@[simp] theorem TB55 : TB 55 = some { size := 1, bytes := 24, zero := [.slice none 0 0], kind := .slice 36 } := rfl
@[simp] theorem TB56 : TB 56 = some { size := 1, bytes := 8, zero := [.nilFunc], kind := .cell } := rfl
@[simp] theorem TB57 : TB 57 = some { size := 1, bytes := 8, zero := [.nilFunc], kind := .cell } := rfl
@[simp] theorem TB58 : TB 58 = some { size := 2, bytes := 16, zero := [.int .i64 0, .int .i64 0], kind := .struct [(0, 2), (1, 3)], eqk := [.i64, .i64] } := rfl
@[simp] theorem TB59 : TB 59 = some { size := 2, bytes := 16, zero := [.int .i64 0, .int .i64 0], kind := .struct [(0, 2), (1, 3)], eqk := [.i64, .i64] } := rfl
@[simp] theorem TB60 : TB 60 = some { size := 1, bytes := 8, zero := [.nilFunc], kind := .cell } := rfl
@[simp] theorem TB61 : TB 61 = some { size := 1, bytes := 8, zero := [.nilFunc], kind := .cell } := rfl
@[simp] theorem TB62 : TB 62 = some { size := 2, bytes := 8, zero := [.int .u32 0, .int .u32 0], kind := .array 2 54, eqk := [.u32, .u32] } := rfl
@[simp] theorem TB63 : TB 63 = some { size := 1, bytes := 2, zero := [.int .u16 0], kind := .int .u16 } := rfl
@[simp] theorem TB64 : TB 64 = some { size := 3, bytes := 6, zero := [.int .u16 0, .int .u16 0, .int .u16 0], kind := .array 3 63, eqk := [.u16, .u16, .u16] } := rfl
@[simp] theorem TB66 : TB 66 = some { size := 1, bytes := 8, zero := [.nilFunc], kind := .cell } := rfl
@[simp] theorem TB67 : TB 67 = some { size := 1, bytes := 8, zero := [.nilFunc], kind := .cell } := rfl
@[simp] theorem TB68 : TB 68 = some { size := 1, bytes := 24, zero := [.slice none 0 0], kind := .slice 25 } := rfl
@[simp] theorem TB69 : TB 69 = some { size := 1, bytes := 8, zero := [.nilFunc], kind := .cell } := rfl
@[simp] theorem TB70 : TB 70 = some { size := 1, bytes := 8, zero := [.nilFunc], kind := .cell } := rfl
@[simp] theorem TB71 : TB 71 = some { size := 1, bytes := 8, zero := [.nilFunc], kind := .cell } := rfl
@[simp] theorem TB72 : TB 72 = some { size := 1, bytes := 8, zero := [.nilFunc], kind := .cell } := rfl
@[simp] theorem TB73 : TB 73 = some { size := 1, bytes := 8, zero := [.nilFunc], kind := .cell } := rfl
@[simp] theorem TB74 : TB 74 = some { size := 1, bytes := 24, zero := [.slice none 0 0], kind := .slice 23 } := rfl
@[simp] theorem TB75 : TB 75 = some { size := 1, bytes := 8, zero := [.nilFunc], kind := .cell } := rfl
@[simp] theorem TB76 : TB 76 = some { size := 1, bytes := 8, zero := [.pointer none], kind := .cell } := rfl
@[simp] theorem TB78 : TB 78 = some { size := 1, bytes := 8, zero := [.nilFunc], kind := .cell } := rfl
@[simp] theorem TB79 : TB 79 = some { size := 1, bytes := 8, zero := [.nilFunc], kind := .cell } := rfl
@[simp] theorem TB80 : TB 80 = some { size := 24, bytes := 192, zero := [.int .i64 0, .int .i64 0, .int .i64 0, .int .i64 0, .int .i64 0, .int .i64 0, .int .i64 0, .int .i64 0, .int .i64 0, .int .i64 0, .int .i64 0, .int .i64 0, .int .i64 0, .int .i64 0, .int .i64 0, .int .i64 0, .int .i64 0, .int .i64 0, .int .i64 0, .int .i64 0, .int .i64 0, .int .i64 0, .int .i64 0, .int .i64 0], kind := .array 12 23 } := rfl
@[simp] theorem TB81 : TB 81 = some { size := 24, bytes := 192, zero := [.int .i64 0, .int .i64 0, .int .i64 0, .int .i64 0, .int .i64 0, .int .i64 0, .int .i64 0, .int .i64 0, .int .i64 0, .int .i64 0, .int .i64 0, .int .i64 0, .int .i64 0, .int .i64 0, .int .i64 0, .int .i64 0, .int .i64 0, .int .i64 0, .int .i64 0, .int .i64 0, .int .i64 0, .int .i64 0, .int .i64 0, .int .i64 0], kind := .array 12 23 } := rfl
@[simp] theorem TB82 : TB 82 = some { size := 30, bytes := 256, zero := [.int .i64 0, .int .i64 0, .int .i64 0, .int .i64 0, .int .i64 0, .slice none 0 0, .int .i64 0, .int .i64 0, .int .i64 0, .int .i64 0, .int .i64 0, .int .i64 0, .int .i64 0, .int .i64 0, .int .i64 0, .int .i64 0, .int .i64 0, .int .i64 0, .int .i64 0, .int .i64 0, .int .i64 0, .int .i64 0, .int .i64 0, .int .i64 0, .int .i64 0, .int .i64 0, .int .i64 0, .int .i64 0, .int .i64 0, .int .i64 0], kind := .struct [(0, 25), (5, 26), (6, 81)] } := rfl
@[simp] theorem TB83 : TB 83 = some { size := 30, bytes := 256, zero := [.int .i64 0, .int .i64 0, .int .i64 0, .int .i64 0, .int .i64 0, .slice none 0 0, .int .i64 0, .int .i64 0, .int .i64 0, .int .i64 0, .int .i64 0, .int .i64 0, .int .i64 0, .int .i64 0, .int .i64 0, .int .i64 0, .int .i64 0, .int .i64 0, .int .i64 0, .int .i64 0, .int .i64 0, .int .i64 0, .int .i64 0, .int .i64 0, .int .i64 0, .int .i64 0, .int .i64 0, .int .i64 0, .int .i64 0, .int .i64 0], kind := .struct [(0, 25), (5, 26), (6, 81)] } := rfl
@[simp] theorem TB84 : TB 84 = some { size := 1, bytes := 8, zero := [.nilFunc], kind := .cell } := rfl
@[simp] theorem TB86 : TB 86 = some { size := 1, bytes := 8, zero := [.nilFunc], kind := .cell } := rfl
@[simp] theorem TB87 : TB 87 = some { size := 1, bytes := 8, zero := [.nilFunc], kind := .cell } := rfl
@[simp] theorem TB88 : TB 88 = some { size := 1, bytes := 8, zero := [.nilFunc], kind := .cell } := rfl
@[simp] theorem TB89 : TB 89 = some { size := 1, bytes := 8, zero := [.nilFunc], kind := .cell } := rfl
@[simp] theorem TB90 : TB 90 = some { size := 1, bytes := 8, zero := [.nilFunc], kind := .cell } := rfl
@[simp] theorem TB91 : TB 91 = some { size := 1, bytes := 8, zero := [.nilFunc], kind := .cell } := rfl
@[simp] theorem TB92 : TB 92 = some { size := 1, bytes := 8, zero := [.nilFunc], kind := .cell } := rfl
@[simp] theorem TB93 : TB 93 = some { size := 1, bytes := 8, zero := [.nilFunc], kind := .cell } := rfl
@[simp] theorem TB94 : TB 94 = some { size := 1, bytes := 8, zero := [.nilFunc], kind := .cell } := rfl
@[simp] theorem TB95 : TB 95 = some { size := 1, bytes := 8, zero := [.nilFunc], kind := .cell } := rfl
@[simp] theorem TB96 : TB 96 = some { size := 1, bytes := 8, zero := [.nilFunc], kind := .cell } := rfl
@[simp] theorem TB97 : TB 97 = some { size := 1, bytes := 8, zero := [.nilFunc], kind := .cell } := rfl
@[simp] theorem TB98 : TB 98 = some { size := 1, bytes := 8, zero := [.nilFunc], kind := .cell } := rfl
@[simp] theorem TB99 : TB 99 = some { size := 1, bytes := 8, zero := [.nilFunc], kind := .cell } := rfl
@[simp] theorem TB100 : TB 100 = some { size := 1, bytes := 8, zero := [.nilFunc], kind := .cell } := rfl
@[simp] theorem TB102 : TB 102 = some { size := 1, bytes := 8, zero := [.nilFunc], kind := .cell } := rfl
@[simp] theorem TB103 : TB 103 = some { size := 1, bytes := 8, zero := [.nilFunc], kind := .cell } := rfl
@[simp] theorem TB104 : TB 104 = some { size := 1, bytes := 8, zero := [.nilFunc], kind := .cell } := rfl
@[simp] theorem TB105 : TB 105 = some { size := 1, bytes := 8, zero := [.nilFunc], kind := .cell } := rfl
@[simp] theorem TB106 : TB 106 = some { size := 1, bytes := 8, zero := [.nilFunc], kind := .cell } := rfl
@[simp] theorem TB107 : TB 107 = some { size := 1, bytes := 8, zero := [.nilFunc], kind := .cell } := rfl
@[simp] theorem TB108 : TB 108 = some { size := 1, bytes := 8, zero := [.nilFunc], kind := .cell } := rfl
@[simp] theorem TB109 : TB 109 = some { size := 1, bytes := 8, zero := [.nilFunc], kind := .cell } := rfl
@[simp] theorem TB110 : TB 110 = some { size := 1, bytes := 8, zero := [.nilFunc], kind := .cell } := rfl
@[simp] theorem TB111 : TB 111 = some { size := 1, bytes := 8, zero := [.nilFunc], kind := .cell } := rfl
@[simp] theorem TB112 : TB 112 = some { size := 1, bytes := 8, zero := [.nilFunc], kind := .cell } := rfl
@[simp] theorem TB113 : TB 113 = some { size := 1, bytes := 8, zero := [.nilFunc], kind := .cell } := rfl
@[simp] theorem TB114 : TB 114 = some { size := 1, bytes := 8, zero := [.nilFunc], kind := .cell } := rfl
@[simp] theorem TB115 : TB 115 = some { size := 1, bytes := 8, zero := [.map none], kind := .cell } := rfl
@[simp] theorem TB116 : TB 116 = some { size := 1, bytes := 8, zero := [.nilFunc], kind := .cell } := rfl
@[simp] theorem TB117 : TB 117 = some { size := 1, bytes := 8, zero := [.nilFunc], kind := .cell } := rfl
@[simp] theorem TB118 : TB 118 = some { size := 1, bytes := 8, zero := [.nilFunc], kind := .cell } := rfl
@[simp] theorem TB119 : TB 119 = some { size := 1, bytes := 8, zero := [.nilFunc], kind := .cell } := rfl
@[simp] theorem TB120 : TB 120 = some { size := 1, bytes := 8, zero := [.nilFunc], kind := .cell } := rfl
@[simp] theorem TB121 : TB 121 = some { size := 1, bytes := 8, zero := [.nilFunc], kind := .cell } := rfl
@[simp] theorem TB122 : TB 122 = some { size := 1, bytes := 8, zero := [.nilFunc], kind := .cell } := rfl
@[simp] theorem TB123 : TB 123 = some { size := 1, bytes := 8, zero := [.nilFunc], kind := .cell } := rfl
@[simp] theorem TB124 : TB 124 = some { size := 12, bytes := 12, zero := [.bool false, .bool false, .bool false, .bool false, .bool false, .bool false, .bool false, .bool false, .bool false, .bool false, .bool false, .bool false], kind := .array 12 4 } := rfl
@[simp] theorem TB125 : TB 125 = some { size := 1, bytes := 24, zero := [.slice none 0 0], kind := .slice 4 } := rfl
@[simp] theorem TB126 : TB 126 = some { size := 1, bytes := 8, zero := [.nilFunc], kind := .cell } := rfl
@[simp] theorem TB127 : TB 127 = some { size := 1, bytes := 8, zero := [.nilFunc], kind := .cell } := rfl
@[simp] theorem TB133 : TB 133 = some { size := 1, bytes := 8, zero := [.nilFunc], kind := .cell } := rfl
@[simp] theorem TB134 : TB 134 = some { size := 1, bytes := 1, zero := [.int .u8 0], kind := .int .u8 } := rfl
@[simp] theorem TB135 : TB 135 = some { size := 1, bytes := 1, zero := [.int .u8 0], kind := .int .u8 } := rfl
@[simp] theorem TB136 : TB 136 = some { size := 1, bytes := 8, zero := [.nilFunc], kind := .cell } := rfl
@[simp] theorem TB137 : TB 137 = some { size := 1, bytes := 8, zero := [.pointer none], kind := .cell } := rfl
@[simp] theorem TB138 : TB 138 = some { size := 1, bytes := 4, zero := [.int .i32 0], kind := .int .i32 } := rfl
@[simp] theorem TB139 : TB 139 = some { size := 1, bytes := 4, zero := [.int .i32 0], kind := .int .i32 } := rfl
@[simp] theorem TB140 : TB 140 = some { size := 11, bytes := 48, zero := [.int .u64 0, .int .u64 0, .int .u32 0, .int .u8 0, .int .u8 0, .int .u8 0, .int .u8 0, .nilFunc, .pointer none, .int .i32 0, .int .i32 0], kind := .struct [(0, 12), (1, 12), (2, 54), (3, 134), (4, 5), (5, 5), (6, 135), (7, 136), (8, 137), (9, 138), (10, 139)] } := rfl
@[simp] theorem TB141 : TB 141 = some { size := 11, bytes := 48, zero := [.int .u64 0, .int .u64 0, .int .u32 0, .int .u8 0, .int .u8 0, .int .u8 0, .int .u8 0, .nilFunc, .pointer none, .int .i32 0, .int .i32 0], kind := .struct [(0, 12), (1, 12), (2, 54), (3, 134), (4, 5), (5, 5), (6, 135), (7, 136), (8, 137), (9, 138), (10, 139)] } := rfl
set_option maxRecDepth 20000 in
set_option maxHeartbeats 4000000 in
theorem tabOk : TabOk Try.prog TB := by
  intro t i h
  unfold TB at h
  split at h <;> first
    | (cases h; exact ti1)
    | (cases h; exact ti2)
    | (cases h; exact ti3)
    | (cases h; exact ti4)
    | (cases h; exact ti5)
    | (cases h; exact ti6)
    | (cases h; exact ti7)
    | (cases h; exact ti8)
    | (cases h; exact ti12)
    | (cases h; exact ti15)
    | (cases h; exact ti16)
    | (cases h; exact ti17)
    | (cases h; exact ti18)
    | (cases h; exact ti19)
    | (cases h; exact ti21)
    | (cases h; exact ti22)
    | (cases h; exact ti23)
    | (cases h; exact ti24)
    | (cases h; exact ti25)
    | (cases h; exact ti26)
    | (cases h; exact ti27)
    | (cases h; exact ti28)
    | (cases h; exact ti29)
    | (cases h; exact ti31)
    | (cases h; exact ti33)
    | (cases h; exact ti34)
    | (cases h; exact ti35)
    | (cases h; exact ti36)
    | (cases h; exact ti37)
    | (cases h; exact ti38)
    | (cases h; exact ti39)
    | (cases h; exact ti41)
    | (cases h; exact ti43)
    | (cases h; exact ti44)
    | (cases h; exact ti45)
    | (cases h; exact ti46)
    | (cases h; exact ti47)
    | (cases h; exact ti48)
    | (cases h; exact ti49)
    | (cases h; exact ti51)
    | (cases h; exact ti52)
    | (cases h; exact ti53)
    | (cases h; exact ti54)
    | (cases h; exact ti55)
    | (cases h; exact ti56)
    | (cases h; exact ti57)
    | (cases h; exact ti58)
    | (cases h; exact ti59)
    | (cases h; exact ti60)
    | (cases h; exact ti61)
    | (cases h; exact ti62)
    | (cases h; exact ti63)
    | (cases h; exact ti64)
    | (cases h; exact ti66)
    | (cases h; exact ti67)
    | (cases h; exact ti68)
    | (cases h; exact ti69)
    | (cases h; exact ti70)
    | (cases h; exact ti71)
    | (cases h; exact ti72)
    | (cases h; exact ti73)
    | (cases h; exact ti74)
    | (cases h; exact ti75)
    | (cases h; exact ti76)
    | (cases h; exact ti78)
    | (cases h; exact ti79)
    | (cases h; exact ti80)
    | (cases h; exact ti81)
    | (cases h; exact ti82)
    | (cases h; exact ti83)
    | (cases h; exact ti84)
    | (cases h; exact ti86)
    | (cases h; exact ti87)
    | (cases h; exact ti88)
    | (cases h; exact ti89)
    | (cases h; exact ti90)
    | (cases h; exact ti91)
    | (cases h; exact ti92)
    | (cases h; exact ti93)
    | (cases h; exact ti94)
    | (cases h; exact ti95)
    | (cases h; exact ti96)
    | (cases h; exact ti97)
    | (cases h; exact ti98)
    | (cases h; exact ti99)
    | (cases h; exact ti100)
    | (cases h; exact ti102)
    | (cases h; exact ti103)
    | (cases h; exact ti104)
    | (cases h; exact ti105)
    | (cases h; exact ti106)
    | (cases h; exact ti107)
    | (cases h; exact ti108)
    | (cases h; exact ti109)
    | (cases h; exact ti110)
    | (cases h; exact ti111)
    | (cases h; exact ti112)
    | (cases h; exact ti113)
    | (cases h; exact ti114)
    | (cases h; exact ti115)
    | (cases h; exact ti116)
    | (cases h; exact ti117)
    | (cases h; exact ti118)
    | (cases h; exact ti119)
    | (cases h; exact ti120)
    | (cases h; exact ti121)
    | (cases h; exact ti122)
    | (cases h; exact ti123)
    | (cases h; exact ti124)
    | (cases h; exact ti125)
    | (cases h; exact ti126)
    | (cases h; exact ti127)
    | (cases h; exact ti133)
    | (cases h; exact ti134)
    | (cases h; exact ti135)
    | (cases h; exact ti136)
    | (cases h; exact ti137)
    | (cases h; exact ti138)
    | (cases h; exact ti139)
    | (cases h; exact ti140)
    | (cases h; exact ti141)
    | cases h
end Go.Proofs.Ytdkneonokbakjaa.Eng

namespace Go.Proofs.Ytdkneonokbakjaa.Eng
open Go.RowKit
theorem zq0 : Try.prog.follows .mixedOrders = true := by kernel_rfl
section
variable {P : Program} {tp : Bool} {ns : Nat}
theorem zq1 {x y : Code} {n : Nat} {s : St} {Q : Post} (h : ∀ k : KK P tp ns y Q, AWp P tp ns x n s (thenP k.K Q)) : AWp P tp ns (.seq x y) n s Q := AWp.seqK h
theorem zq2 {id n : Nat} {c : Code} {s : St} {Q : Post} (h : ∀ b : BB id Q, AWp P tp ns c n s b.B) : AWp P tp ns (.block id c) n s Q := AWp.blockK h
theorem zq3 {y : Code} {Q : Post} {k : KK P tp ns y Q} {n : Nat} {s : St} (h : AWp P tp ns y n s Q) : k.K n s := KK.go h
theorem zq5 {c : Operand} {x y : Code} {n : Nat} {s : St} {Q : Post} (h : ∀ (kx : KK P tp ns x Q) (ky : KK P tp ns y Q), CondG (opd ns s c) (kx.K n s) (ky.K n s)) : AWp P tp ns (.cond c x y) n s Q := AWp.condK h
theorem zq7 {id : Nat} {Q : Post} {b : BB id Q} {e : Exit} {n : Nat} {s : St} (h : blockP id Q e n s) : b.B e n s := BB.go h
end
theorem zq4 {tp : Bool} {ns id n : Nat} {l : List Oper} {s : St} {Q : Post} (h : Exec0 Try.prog tp TB l.toArray ns n l s (fun s' => Q .normal (n + l.length) s')) : AWp Try.prog tp ns (.region id l.toArray false) n s Q := AWp.reg tabOk h
theorem zq6 {tp : Bool} {ns id n : Nat} {l : List Oper} {s : St} {Q : Post} (h : Exec Try.prog TB l.toArray ns n l s [] (fun s' log => okLog l log = true ∧ Q .normal (n + l.length) s')) (hB : backB l.toArray = true := by kernel_rfl) : AWp Try.prog tp ns (.region id l.toArray true) n s Q := AWp.draws tabOk zq0 hB h
theorem zq8 {l : List Oper} {log : List Foot} {q : Prop} (h : q) (hl : okLog l log = true := by kernel_rfl) : okLog l log = true ∧ q := ⟨hl, h⟩
end Go.Proofs.Ytdkneonokbakjaa.Eng

noncomputable section
namespace Go.Proofs.Ytdkneonokbakjaa.Eng
open Go.RowKit
set_option maxRecDepth 100000
set_option maxHeartbeats 8000000
abbrev stoD (s : RS) : Dat := .agg [iD s.long, iD s.short, iD s.off, iD s.lo, iD s.hi]
abbrev rngD (r : Int × Int) : Dat := .agg [iD r.1, iD r.2]
abbrev runRow (r : Int × Int) : List Dat := [iD r.1, iD r.2]
def runRows (l : List (Int × Int)) : List (List Dat) := l.map runRow
@[simp] theorem runRows_len (l : List (Int × Int)) : (runRows l).length = l.length := List.length_map _
@[simp] theorem runRows_get (l : List (Int × Int)) (i : Nat) : (runRows l)[i]? = (l[i]?).map runRow := List.getElem?_map
abbrev runsD (l : List (Int × Int)) : Dat := .list (runRows l)
theorem fromZn_not {lo hi : Int} {l : List Int} {k : Nat} {x : Int} (hx : l[k]? = some x) (h : x < lo ∨ hi < x) : fromZn lo hi l = false := by
  rw [fromZn, List.all_eq_false]
  exact ⟨x, List.mem_of_getElem? hx, by simp [inZn]; omega⟩
theorem fromZn_take {lo hi : Int} {l : List Int} {k : Nat} {x : Int} (hx : l[k]? = some x) (h : fromZn lo hi (l.take k) = true) (h1 : lo ≤ x) (h2 : x ≤ hi) : fromZn lo hi (l.take (k + 1)) = true := by
  obtain ⟨hk, rfl⟩ := List.getElem?_eq_some_iff.1 hx
  rw [fromZn] at h ⊢
  rw [List.take_succ_eq_append_getElem hk, List.all_append, h]
  simp [inZn]
  omega
theorem refCheckStone_c (s : RS) (ps : List Int) (hl : ps.length ≤ 1000000) : ACall Try.prog 23 [stoD s, intL ps] (iD (stoE s ps)) := by
  obtain ⟨e, he⟩ : ∃ e, e = stoE s ps := ⟨_, rfl⟩
  rw [← he]
  by_cases b1 : ps.length < 1
  · have he' : e = 6 := by rw [he, stoE, if_pos (.inl b1)]
    have b1i : (ps.length : Int) < 1 := by omega
    have b0 : ps = [] := List.length_eq_zero_iff.1 (by omega)
    subst b0
    refine acallK tabOk Try.func23 rfl rfl (show 2 ≤ _ by decide) rfl fun _ => ?_; simp only [Try.ntmps23]
    repeat (first | (with_reducible first | refine zq1 fun _ => ?_ | refine zq2 fun _ => ?_ | refine zq3 ?_) | ((first | refine zq4 ?_ | refine zq5 fun _ _ => ?_ | refine zq6 ?_); simp [-getElem?_pos, z0, z1, z2, z0]) | ((first | refine AWp.ret ?_ | refine AWp.skip ?_ | refine AWp.exit ?_); try simp only [thenP]) | (with_reducible refine zq7 ?_; simp only [blockP, thenP, reduceIte]) | with_reducible refine zq8 ?_)
    (first | refine RR.ret ?_ | refine RR.normal ?_); simp [he']
  have b1i : ¬ (ps.length : Int) < 1 := by omega
  have b0 : ¬ ps = [] := fun h => by subst h; simp at b1
  by_cases b2 : 12 < ps.length
  · have he' : e = 6 := by rw [he, stoE, if_pos (.inr b2)]
    have b2i : (12 : Int) < ps.length := by omega
    refine acallK tabOk Try.func23 rfl rfl (show 2 ≤ _ by decide) rfl fun _ => ?_; simp only [Try.ntmps23]
    repeat (first | (with_reducible first | refine zq1 fun _ => ?_ | refine zq2 fun _ => ?_ | refine zq3 ?_) | ((first | refine zq4 ?_ | refine zq5 fun _ _ => ?_ | refine zq6 ?_); simp [-getElem?_pos, z0, z1, z2, b0, b1, b1i, b2, b2i]) | ((first | refine AWp.ret ?_ | refine AWp.skip ?_ | refine AWp.exit ?_); try simp only [thenP]) | (with_reducible refine zq7 ?_; simp only [blockP, thenP, reduceIte]) | with_reducible refine zq8 ?_)
    (first | refine RR.ret ?_ | refine RR.normal ?_); simp [he']
  have b2i : ¬ (12 : Int) < ps.length := by omega
  have hbad : ¬ GoodR s → e = 2 := fun h => by
    rw [he, stoE, if_neg (by omega), if_neg (fun h2 => h (okR_iff.1 h2))]
  by_cases a1 : s.short < 1
  · have he' := hbad fun h => by have := h.s1; have := h.s2; have := h.s3; have := h.o1; have := h.o2; have := h.l1; have := h.l2; have := h.l3; omega
    refine acallK tabOk Try.func23 rfl rfl (show 2 ≤ _ by decide) rfl fun _ => ?_; simp only [Try.ntmps23]
    repeat (first | (with_reducible first | refine zq1 fun _ => ?_ | refine zq2 fun _ => ?_ | refine zq3 ?_) | ((first | refine zq4 ?_ | refine zq5 fun _ _ => ?_ | refine zq6 ?_); simp [-getElem?_pos, z0, z1, z2, b0, b1, b1i, b2, b2i, a1]) | ((first | refine AWp.ret ?_ | refine AWp.skip ?_ | refine AWp.exit ?_); try simp only [thenP]) | (with_reducible refine zq7 ?_; simp only [blockP, thenP, reduceIte]) | with_reducible refine zq8 ?_)
    (first | refine RR.ret ?_ | refine RR.normal ?_); simp [he']
  by_cases a2 : s.long < s.short
  · have he' := hbad fun h => by have := h.s1; have := h.s2; have := h.s3; have := h.o1; have := h.o2; have := h.l1; have := h.l2; have := h.l3; omega
    refine acallK tabOk Try.func23 rfl rfl (show 2 ≤ _ by decide) rfl fun _ => ?_; simp only [Try.ntmps23]
    repeat (first | (with_reducible first | refine zq1 fun _ => ?_ | refine zq2 fun _ => ?_ | refine zq3 ?_) | ((first | refine zq4 ?_ | refine zq5 fun _ _ => ?_ | refine zq6 ?_); simp [-getElem?_pos, z0, z1, z2, b0, b1, b1i, b2, b2i, a1, a2]) | ((first | refine AWp.ret ?_ | refine AWp.skip ?_ | refine AWp.exit ?_); try simp only [thenP]) | (with_reducible refine zq7 ?_; simp only [blockP, thenP, reduceIte]) | with_reducible refine zq8 ?_)
    (first | refine RR.ret ?_ | refine RR.normal ?_); simp [he']
  by_cases a3 : (100000 : Int) < s.long
  · have he' := hbad fun h => by have := h.s1; have := h.s2; have := h.s3; have := h.o1; have := h.o2; have := h.l1; have := h.l2; have := h.l3; omega
    refine acallK tabOk Try.func23 rfl rfl (show 2 ≤ _ by decide) rfl fun _ => ?_; simp only [Try.ntmps23]
    repeat (first | (with_reducible first | refine zq1 fun _ => ?_ | refine zq2 fun _ => ?_ | refine zq3 ?_) | ((first | refine zq4 ?_ | refine zq5 fun _ _ => ?_ | refine zq6 ?_); simp [-getElem?_pos, z0, z1, z2, b0, b1, b1i, b2, b2i, a1, a2, a3]) | ((first | refine AWp.ret ?_ | refine AWp.skip ?_ | refine AWp.exit ?_); try simp only [thenP]) | (with_reducible refine zq7 ?_; simp only [blockP, thenP, reduceIte]) | with_reducible refine zq8 ?_)
    (first | refine RR.ret ?_ | refine RR.normal ?_); simp [he']
  by_cases a4 : s.off < 0
  · have he' := hbad fun h => by have := h.s1; have := h.s2; have := h.s3; have := h.o1; have := h.o2; have := h.l1; have := h.l2; have := h.l3; omega
    refine acallK tabOk Try.func23 rfl rfl (show 2 ≤ _ by decide) rfl fun _ => ?_; simp only [Try.ntmps23]
    repeat (first | (with_reducible first | refine zq1 fun _ => ?_ | refine zq2 fun _ => ?_ | refine zq3 ?_) | ((first | refine zq4 ?_ | refine zq5 fun _ _ => ?_ | refine zq6 ?_); simp [-getElem?_pos, z0, z1, z2, b0, b1, b1i, b2, b2i, a1, a2, a3, a4]) | ((first | refine AWp.ret ?_ | refine AWp.skip ?_ | refine AWp.exit ?_); try simp only [thenP]) | (with_reducible refine zq7 ?_; simp only [blockP, thenP, reduceIte]) | with_reducible refine zq8 ?_)
    (first | refine RR.ret ?_ | refine RR.normal ?_); simp [he']
  by_cases a5 : s.short ≤ s.off
  · have he' := hbad fun h => by have := h.s1; have := h.s2; have := h.s3; have := h.o1; have := h.o2; have := h.l1; have := h.l2; have := h.l3; omega
    refine acallK tabOk Try.func23 rfl rfl (show 2 ≤ _ by decide) rfl fun _ => ?_; simp only [Try.ntmps23]
    repeat (first | (with_reducible first | refine zq1 fun _ => ?_ | refine zq2 fun _ => ?_ | refine zq3 ?_) | ((first | refine zq4 ?_ | refine zq5 fun _ _ => ?_ | refine zq6 ?_); simp [-getElem?_pos, z0, z1, z2, b0, b1, b1i, b2, b2i, a1, a2, a3, a4, a5]) | ((first | refine AWp.ret ?_ | refine AWp.skip ?_ | refine AWp.exit ?_); try simp only [thenP]) | (with_reducible refine zq7 ?_; simp only [blockP, thenP, reduceIte]) | with_reducible refine zq8 ?_)
    (first | refine RR.ret ?_ | refine RR.normal ?_); simp [he']
  by_cases a6 : s.lo < 0
  · have he' := hbad fun h => by have := h.s1; have := h.s2; have := h.s3; have := h.o1; have := h.o2; have := h.l1; have := h.l2; have := h.l3; omega
    refine acallK tabOk Try.func23 rfl rfl (show 2 ≤ _ by decide) rfl fun _ => ?_; simp only [Try.ntmps23]
    repeat (first | (with_reducible first | refine zq1 fun _ => ?_ | refine zq2 fun _ => ?_ | refine zq3 ?_) | ((first | refine zq4 ?_ | refine zq5 fun _ _ => ?_ | refine zq6 ?_); simp [-getElem?_pos, z0, z1, z2, b0, b1, b1i, b2, b2i, a1, a2, a3, a4, a5, a6]) | ((first | refine AWp.ret ?_ | refine AWp.skip ?_ | refine AWp.exit ?_); try simp only [thenP]) | (with_reducible refine zq7 ?_; simp only [blockP, thenP, reduceIte]) | with_reducible refine zq8 ?_)
    (first | refine RR.ret ?_ | refine RR.normal ?_); simp [he']
  by_cases a7 : s.hi < s.lo
  · have he' := hbad fun h => by have := h.s1; have := h.s2; have := h.s3; have := h.o1; have := h.o2; have := h.l1; have := h.l2; have := h.l3; omega
    refine acallK tabOk Try.func23 rfl rfl (show 2 ≤ _ by decide) rfl fun _ => ?_; simp only [Try.ntmps23]
    repeat (first | (with_reducible first | refine zq1 fun _ => ?_ | refine zq2 fun _ => ?_ | refine zq3 ?_) | ((first | refine zq4 ?_ | refine zq5 fun _ _ => ?_ | refine zq6 ?_); simp [-getElem?_pos, z0, z1, z2, b0, b1, b1i, b2, b2i, a1, a2, a3, a4, a5, a6, a7]) | ((first | refine AWp.ret ?_ | refine AWp.skip ?_ | refine AWp.exit ?_); try simp only [thenP]) | (with_reducible refine zq7 ?_; simp only [blockP, thenP, reduceIte]) | with_reducible refine zq8 ?_)
    (first | refine RR.ret ?_ | refine RR.normal ?_); simp [he']
  by_cases a8 : (1000000000 : Int) < s.hi
  · have he' := hbad fun h => by have := h.s1; have := h.s2; have := h.s3; have := h.o1; have := h.o2; have := h.l1; have := h.l2; have := h.l3; omega
    refine acallK tabOk Try.func23 rfl rfl (show 2 ≤ _ by decide) rfl fun _ => ?_; simp only [Try.ntmps23]
    repeat (first | (with_reducible first | refine zq1 fun _ => ?_ | refine zq2 fun _ => ?_ | refine zq3 ?_) | ((first | refine zq4 ?_ | refine zq5 fun _ _ => ?_ | refine zq6 ?_); simp [-getElem?_pos, z0, z1, z2, b0, b1, b1i, b2, b2i, a1, a2, a3, a4, a5, a6, a7, a8]) | ((first | refine AWp.ret ?_ | refine AWp.skip ?_ | refine AWp.exit ?_); try simp only [thenP]) | (with_reducible refine zq7 ?_; simp only [blockP, thenP, reduceIte]) | with_reducible refine zq8 ?_)
    (first | refine RR.ret ?_ | refine RR.normal ?_); simp [he']
  have hg : GoodR s := ⟨by omega, by omega, by omega, by omega, by omega, by omega, by omega, by omega⟩
  have hok : e = if fromZn 1 10000 ps then 0 else 3 := by rw [he, stoE, if_neg (by omega), if_pos (okR_iff.2 hg)]
  refine acallK tabOk Try.func23 rfl rfl (show 2 ≤ _ by decide) rfl fun _ => ?_; simp only [Try.ntmps23]
  repeat (first | (with_reducible first | refine zq1 fun _ => ?_ | refine zq2 fun _ => ?_ | refine zq3 ?_) | ((first | refine zq4 ?_ | refine zq5 fun _ _ => ?_ | refine zq6 ?_); simp [-getElem?_pos, z0, z1, z2, b0, b1, b1i, b2, b2i, a1, a2, a3, a4, a5, a6, a7, a8]) | ((first | refine AWp.ret ?_ | refine AWp.skip ?_ | refine AWp.exit ?_); try simp only [thenP]) | (with_reducible refine zq7 ?_; simp only [blockP, thenP, reduceIte]) | with_reducible refine zq8 ?_)
  refine AWp.loopK (ι := { k : Nat // k ≤ ps.length ∧ fromZn 1 10000 (ps.take k) = true }) (n := 0) (fun k => [(1, .d (intL ps)), (5, .d (iD k.1))]) (fun _ => []) (fun k => ps.length - k.1) ⟨0, Nat.zero_le _, rfl⟩ [] ?_ ?_
  · refine ⟨by rfl, by simp [], by simp [or_imp, forall_and, ] <;> (try (intro _hne; simp [_hne])), by decide⟩
  rintro ⟨k, hk, hall⟩ kk
  have w1 : IntKind.i64.wrap ((k : Int) + 1) = (k : Int) + 1 := wrap64_in (by omega)
  by_cases hlt : k < ps.length
  · have hii : (k : Int) < ps.length := by omega
    obtain ⟨x, hx⟩ : ∃ x, ps[k]? = some x := ⟨_, List.getElem?_eq_getElem hlt⟩
    by_cases c1 : x < 1
    · have he' : e = 3 := by rw [hok, fromZn_not hx (.inl c1)]; rfl
      repeat (first | (with_reducible first | refine zq1 fun _ => ?_ | refine zq2 fun _ => ?_ | refine zq3 ?_) | ((first | refine zq4 ?_ | refine zq5 fun _ _ => ?_ | refine zq6 ?_); simp [-getElem?_pos, z0, z1, z2, hlt, hii, hx, c1]) | ((first | refine AWp.ret ?_ | refine AWp.skip ?_ | refine AWp.exit ?_); try simp only [thenP]) | (with_reducible refine zq7 ?_; simp only [blockP, thenP, reduceIte]) | with_reducible refine zq8 ?_)
      (first | refine RR.ret ?_ | refine RR.normal ?_); simp [he']
    by_cases c2 : (10000 : Int) < x
    · have he' : e = 3 := by rw [hok, fromZn_not hx (.inr c2)]; rfl
      repeat (first | (with_reducible first | refine zq1 fun _ => ?_ | refine zq2 fun _ => ?_ | refine zq3 ?_) | ((first | refine zq4 ?_ | refine zq5 fun _ _ => ?_ | refine zq6 ?_); simp [-getElem?_pos, z0, z1, z2, hlt, hii, hx, c1, c2]) | ((first | refine AWp.ret ?_ | refine AWp.skip ?_ | refine AWp.exit ?_); try simp only [thenP]) | (with_reducible refine zq7 ?_; simp only [blockP, thenP, reduceIte]) | with_reducible refine zq8 ?_)
      (first | refine RR.ret ?_ | refine RR.normal ?_); simp [he']
    repeat (first | (with_reducible first | refine zq1 fun _ => ?_ | refine zq2 fun _ => ?_ | refine zq3 ?_) | ((first | refine zq4 ?_ | refine zq5 fun _ _ => ?_ | refine zq6 ?_); simp [-getElem?_pos, z0, z1, z2, hlt, hii, hx, c1, c2, w1]) | ((first | refine AWp.ret ?_ | refine AWp.skip ?_ | refine AWp.exit ?_); try simp only [thenP]) | (with_reducible refine zq7 ?_; simp only [blockP, thenP, reduceIte]) | with_reducible refine zq8 ?_)
    refine LL.go ⟨k + 1, hlt, fromZn_take hx hall (by omega) (by omega)⟩ [] ⟨by rfl, by simp [], by simp [or_imp, forall_and, ] <;> (try (intro _hne; simp [_hne])), by decide⟩ ?_
    simp; omega
  · obtain rfl : k = ps.length := by omega
    rw [List.take_length] at hall
    have he' : e = 0 := by rw [hok, hall]; rfl
    repeat (first | (with_reducible first | refine zq1 fun _ => ?_ | refine zq2 fun _ => ?_ | refine zq3 ?_) | ((first | refine zq4 ?_ | refine zq5 fun _ _ => ?_ | refine zq6 ?_); simp [-getElem?_pos, z0, z1, z2, hlt]) | ((first | refine AWp.ret ?_ | refine AWp.skip ?_ | refine AWp.exit ?_); try simp only [thenP]) | (with_reducible refine zq7 ?_; simp only [blockP, thenP, reduceIte]) | with_reducible refine zq8 ?_)
    (first | refine RR.ret ?_ | refine RR.normal ?_); simp [he']
theorem refIsAllowed_c (s : RS) (t x : Int) (ht : 1 ≤ t ∧ t ≤ 10000) (ho : 0 ≤ s.off ∧ s.off ≤ 100000) (hx : 0 ≤ x ∧ x ≤ 100000) : ACall Try.prog 59 [stoD s, iD t, iD x] (bD (okAt s t x)) := by
  obtain ⟨r, hr⟩ : ∃ r, r = okAt s t x := ⟨_, rfl⟩
  rw [← hr]
  have p1 : -1000000000 ≤ (x - s.off) * t ∧ (x - s.off) * t ≤ 1000000000 := by
    constructor
    · have := Int.mul_le_mul_of_nonneg_right (show -100000 ≤ x - s.off by omega) (show 0 ≤ t by omega)
      omega
    · have := Int.mul_le_mul_of_nonneg_right (show x - s.off ≤ 100000 by omega) (show 0 ≤ t by omega)
      omega
  have p2 : 0 ≤ (x + s.off) * t ∧ (x + s.off) * t ≤ 2000000000 := by
    constructor
    · exact Int.mul_nonneg (by omega) (by omega)
    · have := Int.mul_le_mul_of_nonneg_right (show x + s.off ≤ 200000 by omega) (show 0 ≤ t by omega)
      omega
  have w1 : IntKind.i64.wrap (x - s.off) = x - s.off := wrap64_in (by omega)
  have w2 : IntKind.i64.wrap (x + s.off) = x + s.off := wrap64_in (by omega)
  have hok : r = decide (s.lo ≤ (x - s.off) * t ∧ (x + s.off) * t ≤ s.hi) := hr
  generalize hA : (x - s.off) * t = A at *
  generalize hB : (x + s.off) * t = B at *
  have w3 : IntKind.i64.wrap A = A := wrap64_in (by omega)
  have w4 : IntKind.i64.wrap B = B := wrap64_in (by omega)
  by_cases g1 : s.lo ≤ A
  · by_cases g2 : B ≤ s.hi
    · have hr' : r = true := by rw [hok]; exact decide_eq_true ⟨g1, g2⟩
      refine acallK tabOk Try.func59 rfl rfl (show 3 ≤ _ by decide) rfl fun _ => ?_; simp only [Try.ntmps59]
      repeat (first | (with_reducible first | refine zq1 fun _ => ?_ | refine zq2 fun _ => ?_ | refine zq3 ?_) | ((first | refine zq4 ?_ | refine zq5 fun _ _ => ?_ | refine zq6 ?_); simp [-getElem?_pos, z0, z1, z2, w1, w2, w3, w4, g1, g2, hA, hB]) | ((first | refine AWp.ret ?_ | refine AWp.skip ?_ | refine AWp.exit ?_); try simp only [thenP]) | (with_reducible refine zq7 ?_; simp only [blockP, thenP, reduceIte]) | with_reducible refine zq8 ?_)
      (first | refine RR.ret ?_ | refine RR.normal ?_); simp [hr']
    · have hr' : r = false := by rw [hok]; exact decide_eq_false fun h => g2 h.2
      refine acallK tabOk Try.func59 rfl rfl (show 3 ≤ _ by decide) rfl fun _ => ?_; simp only [Try.ntmps59]
      repeat (first | (with_reducible first | refine zq1 fun _ => ?_ | refine zq2 fun _ => ?_ | refine zq3 ?_) | ((first | refine zq4 ?_ | refine zq5 fun _ _ => ?_ | refine zq6 ?_); simp [-getElem?_pos, z0, z1, z2, w1, w2, w3, w4, g1, g2, hA, hB]) | ((first | refine AWp.ret ?_ | refine AWp.skip ?_ | refine AWp.exit ?_); try simp only [thenP]) | (with_reducible refine zq7 ?_; simp only [blockP, thenP, reduceIte]) | with_reducible refine zq8 ?_)
      (first | refine RR.ret ?_ | refine RR.normal ?_); simp [hr']
  · have hr' : r = false := by rw [hok]; exact decide_eq_false fun h => g1 h.1
    refine acallK tabOk Try.func59 rfl rfl (show 3 ≤ _ by decide) rfl fun _ => ?_; simp only [Try.ntmps59]
    repeat (first | (with_reducible first | refine zq1 fun _ => ?_ | refine zq2 fun _ => ?_ | refine zq3 ?_) | ((first | refine zq4 ?_ | refine zq5 fun _ _ => ?_ | refine zq6 ?_); simp [-getElem?_pos, z0, z1, z2, w1, w2, w3, w4, g1, hA, hB]) | ((first | refine AWp.ret ?_ | refine AWp.skip ?_ | refine AWp.exit ?_); try simp only [thenP]) | (with_reducible refine zq7 ?_; simp only [blockP, thenP, reduceIte]) | with_reducible refine zq8 ?_)
    (first | refine RR.ret ?_ | refine RR.normal ?_); simp [hr']
theorem refBetween_c (s : RS) (t : Int) (ht : 1 ≤ t ∧ t ≤ 10000) (hg : GoodR s) : ACall Try.prog 51 [stoD s, iD t] (rngD (betR s t)) := by
  have := hg.s1; have := hg.s2; have := hg.s3; have := hg.o1; have := hg.o2; have := hg.l1; have := hg.l2; have := hg.l3
  obtain ⟨p, hp⟩ : ∃ p, p = (s.lo + t - 1) / t := ⟨_, rfl⟩
  obtain ⟨q, hq⟩ : ∃ q, q = s.hi / t := ⟨_, rfl⟩
  have q1 : (s.lo + t - 1).tdiv t = p := by rw [Int.tdiv_eq_ediv_of_nonneg (by omega), hp]
  have q2 : s.hi.tdiv t = q := by rw [Int.tdiv_eq_ediv_of_nonneg (by omega), hq]
  have hp1 : 0 ≤ p := by rw [hp]; exact Int.ediv_nonneg (by omega) (by omega)
  have hp2 : p ≤ 1000010000 := by rw [hp]; exact Int.le_trans (Int.ediv_le_self _ (by omega)) (by omega)
  have hq1 : 0 ≤ q := by rw [hq]; exact Int.ediv_nonneg (by omega) (by omega)
  have hq2 : q ≤ 1000000000 := by rw [hq]; exact Int.le_trans (Int.ediv_le_self _ (by omega)) (by omega)
  obtain ⟨x, hx⟩ : ∃ x, x = max s.short (p + s.off) := ⟨_, rfl⟩
  obtain ⟨y, hy⟩ : ∃ y, y = min s.long (q - s.off) := ⟨_, rfl⟩
  have hres : betR s t = (x, y) := by rw [betR, ← hp, ← hq, ← hx, ← hy]
  rw [hres]
  have m1 : (if s.short < p + s.off then p + s.off else s.short) = x := by rw [hx]; split <;> omega
  have m2 : (if q - s.off < s.long then q - s.off else s.long) = y := by rw [hy]; split <;> omega
  have w1 : IntKind.i64.wrap (s.lo + t) = s.lo + t := wrap64_in (by omega)
  have w2 : IntKind.i64.wrap (s.lo + t - 1) = s.lo + t - 1 := wrap64_in (by omega)
  have w3 : IntKind.i64.wrap p = p := wrap64_in (by omega)
  have w4 : IntKind.i64.wrap q = q := wrap64_in (by omega)
  have w5 : IntKind.i64.wrap (p + s.off) = p + s.off := wrap64_in (by omega)
  have w6 : IntKind.i64.wrap (q - s.off) = q - s.off := wrap64_in (by omega)
  have ht0 : ¬ t = 0 := by omega
  refine acallK tabOk Try.func51 rfl rfl (show 2 ≤ _ by decide) rfl fun _ => ?_; simp only [Try.ntmps51]
  repeat (first | (with_reducible first | refine zq1 fun _ => ?_ | refine zq2 fun _ => ?_ | refine zq3 ?_) | ((first | refine zq4 ?_ | refine zq5 fun _ _ => ?_ | refine zq6 ?_); simp [-getElem?_pos, z0, z1, z2, w1, w2, w3, w4, w5, w6, q1, q2, m1, m2, ht0]) | ((first | refine AWp.ret ?_ | refine AWp.skip ?_ | refine AWp.exit ?_); try simp only [thenP]) | (with_reducible refine zq7 ?_; simp only [blockP, thenP, reduceIte]) | with_reducible refine zq8 ?_)
  (first | refine RR.ret ?_ | refine RR.normal ?_); simp [z0]
end Go.Proofs.Ytdkneonokbakjaa.Eng

noncomputable section
namespace Go.Proofs.Ytdkneonokbakjaa.Eng
open Go.RowKit
set_option maxRecDepth 100000
set_option maxHeartbeats 8000000
theorem betA_at {s : RS} {ps : List Int} {k : Nat} {t : Int} (h : ps[k]? = some t) : betA s ps k = betR s t := by rw [betA, h]
theorem pick_succ (A : Rgs) (x : Int) (k : Nat) : pickR A x (k + 1) = match pickR A x k with
    | none => if bearB A k x = true then some k else none
    | some j => if bearB A k x = true ∧ (A k).1 < (A j).1 then some k else some j := rfl
structure PulOk (s : RS) (ps : List Int) : Prop where
  g : GoodR s
  n2 : ps.length ≤ 12
  p : fromZn 1 10000 ps = true
theorem StoOk.pul {s : RS} {ps : List Int} (h : StoOk s ps) : PulOk s ps := ⟨h.g, h.n2, h.p⟩
theorem PulOk.turn {s : RS} {ps : List Int} (h : PulOk s ps) {k : Nat} {t : Int} (ht : ps[k]? = some t) : 1 ≤ t ∧ t ≤ 10000 := by
  have := List.all_eq_true.1 h.p t (List.mem_of_getElem? ht)
  simpa [inZn] using this
def pickI (o : Option Nat) : Int := match o with
  | some k => (k : Int)
  | none => -1
theorem refBest_c (s : RS) (ps : List Int) (ok : PulOk s ps) (x : Int) : ACall Try.prog 69 [stoD s, intL ps, iD x] (iD (pickI (pickR (betA s ps) x ps.length))) := by
  have n2 := ok.n2
  refine acallK tabOk Try.func69 rfl rfl (show 3 ≤ _ by decide) rfl fun _ => ?_; simp only [Try.ntmps69]
  repeat (first | (with_reducible first | refine zq1 fun _ => ?_ | refine zq2 fun _ => ?_ | refine zq3 ?_) | ((first | refine zq4 ?_ | refine zq5 fun _ _ => ?_ | refine zq6 ?_); simp [-getElem?_pos, z0, z1, z2, z0]) | ((first | refine AWp.ret ?_ | refine AWp.skip ?_ | refine AWp.exit ?_); try simp only [thenP]) | (with_reducible refine zq7 ?_; simp only [blockP, thenP, reduceIte]) | with_reducible refine zq8 ?_)
  refine AWp.loopK (ι := { k : Nat // k ≤ ps.length }) (n := 1) (fun k => [(1, .d (intL ps)), (2, .d (iD x)), (3, .ptr 0 0 0), (7, .d (iD (pickI (pickR (betA s ps) x k.1)))), (8, .d (iD k.1))]) (fun _ => [(0, .box 25 [.d (iD s.long), .d (iD s.short), .d (iD s.off), .d (iD s.lo), .d (iD s.hi)] false)]) (fun k => ps.length - k.1) ⟨0, Nat.zero_le _⟩ [0] ?_ ?_
  · refine ⟨by rfl, by simp [pickR, pickI], by simp [or_imp, forall_and, pickR, pickI] <;> (try (intro _hne; simp [_hne])), by decide⟩
  rintro ⟨k, hk⟩ kk
  have w1 : IntKind.i64.wrap ((k : Int) + 1) = (k : Int) + 1 := wrap64_in (by omega)
  by_cases hlt : k < ps.length
  · have hki : (k : Int) < ps.length := by omega
    obtain ⟨t, ht⟩ : ∃ t, ps[k]? = some t := ⟨_, List.getElem?_eq_getElem hlt⟩
    have cb := refBetween_c s t (ok.turn ht) ok.g
    have hs := pick_succ (betA s ps) x k
    simp only [bearB_iff, betA_at ht] at hs
    generalize betR s t = r at *
    obtain ⟨lo, hi⟩ := r
    cases hp : pickR (betA s ps) x k with
    | none =>
      rw [hp] at hs
      simp only at hs
      have hpi : pickI none = -1 := rfl
      by_cases g1 : lo ≤ x
      · by_cases g2 : x ≤ hi
        · rw [if_pos ⟨g1, g2⟩] at hs
          repeat (first | (with_reducible first | refine zq1 fun _ => ?_ | refine zq2 fun _ => ?_ | refine zq3 ?_) | ((first | refine zq4 ?_ | refine zq5 fun _ _ => ?_ | refine zq6 ?_); simp [-getElem?_pos, z0, z1, z2, hki, hlt, ht]) | ((first | refine AWp.ret ?_ | refine AWp.skip ?_ | refine AWp.exit ?_); try simp only [thenP]) | (with_reducible refine zq7 ?_; simp only [blockP, thenP, reduceIte]) | with_reducible refine zq8 ?_)
          (first | refine Exec0.call [] cb ?_ rfl ?_ ?_ | refine Exec.call [] cb ?_ rfl ?_ ?_); (focus simp [-getElem?_pos, ht]); (focus simp [-getElem?_pos, z0, z1, z2, ht]); simp [-getElem?_pos, z0, z1, z2, ht]
          repeat (first | (with_reducible first | refine zq1 fun _ => ?_ | refine zq2 fun _ => ?_ | refine zq3 ?_) | ((first | refine zq4 ?_ | refine zq5 fun _ _ => ?_ | refine zq6 ?_); simp [-getElem?_pos, z0, z1, z2, g1, g2, hp, hpi, w1]) | ((first | refine AWp.ret ?_ | refine AWp.skip ?_ | refine AWp.exit ?_); try simp only [thenP]) | (with_reducible refine zq7 ?_; simp only [blockP, thenP, reduceIte]) | with_reducible refine zq8 ?_)
          refine LL.go ⟨k + 1, hlt⟩ [0] ⟨by rfl, by simp [hs, pickI], by simp [or_imp, forall_and, hs, pickI] <;> (try (intro _hne; simp [_hne])), by decide⟩ ?_
          simp; omega
        · rw [if_neg fun h => g2 h.2] at hs
          repeat (first | (with_reducible first | refine zq1 fun _ => ?_ | refine zq2 fun _ => ?_ | refine zq3 ?_) | ((first | refine zq4 ?_ | refine zq5 fun _ _ => ?_ | refine zq6 ?_); simp [-getElem?_pos, z0, z1, z2, hki, hlt, ht]) | ((first | refine AWp.ret ?_ | refine AWp.skip ?_ | refine AWp.exit ?_); try simp only [thenP]) | (with_reducible refine zq7 ?_; simp only [blockP, thenP, reduceIte]) | with_reducible refine zq8 ?_)
          (first | refine Exec0.call [] cb ?_ rfl ?_ ?_ | refine Exec.call [] cb ?_ rfl ?_ ?_); (focus simp [-getElem?_pos, ht]); (focus simp [-getElem?_pos, z0, z1, z2, ht]); simp [-getElem?_pos, z0, z1, z2, ht]
          repeat (first | (with_reducible first | refine zq1 fun _ => ?_ | refine zq2 fun _ => ?_ | refine zq3 ?_) | ((first | refine zq4 ?_ | refine zq5 fun _ _ => ?_ | refine zq6 ?_); simp [-getElem?_pos, z0, z1, z2, g1, g2, hp, hpi, w1]) | ((first | refine AWp.ret ?_ | refine AWp.skip ?_ | refine AWp.exit ?_); try simp only [thenP]) | (with_reducible refine zq7 ?_; simp only [blockP, thenP, reduceIte]) | with_reducible refine zq8 ?_)
          refine LL.go ⟨k + 1, hlt⟩ [0] ⟨by rfl, by simp [hs, pickI], by simp [or_imp, forall_and, hs, pickI] <;> (try (intro _hne; simp [_hne])), by decide⟩ ?_
          simp; omega
      · rw [if_neg fun h => g1 h.1] at hs
        repeat (first | (with_reducible first | refine zq1 fun _ => ?_ | refine zq2 fun _ => ?_ | refine zq3 ?_) | ((first | refine zq4 ?_ | refine zq5 fun _ _ => ?_ | refine zq6 ?_); simp [-getElem?_pos, z0, z1, z2, hki, hlt, ht]) | ((first | refine AWp.ret ?_ | refine AWp.skip ?_ | refine AWp.exit ?_); try simp only [thenP]) | (with_reducible refine zq7 ?_; simp only [blockP, thenP, reduceIte]) | with_reducible refine zq8 ?_)
        (first | refine Exec0.call [] cb ?_ rfl ?_ ?_ | refine Exec.call [] cb ?_ rfl ?_ ?_); (focus simp [-getElem?_pos, ht]); (focus simp [-getElem?_pos, z0, z1, z2, ht]); simp [-getElem?_pos, z0, z1, z2, ht]
        repeat (first | (with_reducible first | refine zq1 fun _ => ?_ | refine zq2 fun _ => ?_ | refine zq3 ?_) | ((first | refine zq4 ?_ | refine zq5 fun _ _ => ?_ | refine zq6 ?_); simp [-getElem?_pos, z0, z1, z2, g1, hp, hpi, w1]) | ((first | refine AWp.ret ?_ | refine AWp.skip ?_ | refine AWp.exit ?_); try simp only [thenP]) | (with_reducible refine zq7 ?_; simp only [blockP, thenP, reduceIte]) | with_reducible refine zq8 ?_)
        refine LL.go ⟨k + 1, hlt⟩ [0] ⟨by rfl, by simp [hs, pickI], by simp [or_imp, forall_and, hs, pickI] <;> (try (intro _hne; simp [_hne])), by decide⟩ ?_
        simp; omega
    | some j =>
      rw [hp] at hs
      simp only at hs
      have hpi : pickI (some j) = (j : Int) := rfl
      have hj := (pick_some hp).lt
      have hjn : ¬ (j : Int) < 0 := by omega
      have hjl : j < ps.length := by omega
      have hji : (j : Int) < ps.length := by omega
      obtain ⟨t2, ht2⟩ : ∃ t2, ps[j]? = some t2 := ⟨_, List.getElem?_eq_getElem hjl⟩
      have cb2 := refBetween_c s t2 (ok.turn ht2) ok.g
      rw [betA_at ht2] at hs
      generalize betR s t2 = r2 at *
      obtain ⟨lo2, hi2⟩ := r2
      simp only at hs
      by_cases g1 : lo ≤ x
      · by_cases g2 : x ≤ hi
        · by_cases g3 : lo < lo2
          · rw [if_pos ⟨⟨g1, g2⟩, g3⟩] at hs
            repeat (first | (with_reducible first | refine zq1 fun _ => ?_ | refine zq2 fun _ => ?_ | refine zq3 ?_) | ((first | refine zq4 ?_ | refine zq5 fun _ _ => ?_ | refine zq6 ?_); simp [-getElem?_pos, z0, z1, z2, hki, hlt, ht]) | ((first | refine AWp.ret ?_ | refine AWp.skip ?_ | refine AWp.exit ?_); try simp only [thenP]) | (with_reducible refine zq7 ?_; simp only [blockP, thenP, reduceIte]) | with_reducible refine zq8 ?_)
            (first | refine Exec0.call [] cb ?_ rfl ?_ ?_ | refine Exec.call [] cb ?_ rfl ?_ ?_); (focus simp [-getElem?_pos, ht]); (focus simp [-getElem?_pos, z0, z1, z2, ht]); simp [-getElem?_pos, z0, z1, z2, ht]
            repeat (first | (with_reducible first | refine zq1 fun _ => ?_ | refine zq2 fun _ => ?_ | refine zq3 ?_) | ((first | refine zq4 ?_ | refine zq5 fun _ _ => ?_ | refine zq6 ?_); simp [-getElem?_pos, z0, z1, z2, g1, g2, hp, hpi, hjn, hjl, hji, ht2]) | ((first | refine AWp.ret ?_ | refine AWp.skip ?_ | refine AWp.exit ?_); try simp only [thenP]) | (with_reducible refine zq7 ?_; simp only [blockP, thenP, reduceIte]) | with_reducible refine zq8 ?_)
            (first | refine Exec0.call [] cb2 ?_ rfl ?_ ?_ | refine Exec.call [] cb2 ?_ rfl ?_ ?_); (focus simp [-getElem?_pos, g3]); (focus simp [-getElem?_pos, z0, z1, z2, g3]); simp [-getElem?_pos, z0, z1, z2, g3]
            repeat (first | (with_reducible first | refine zq1 fun _ => ?_ | refine zq2 fun _ => ?_ | refine zq3 ?_) | ((first | refine zq4 ?_ | refine zq5 fun _ _ => ?_ | refine zq6 ?_); simp [-getElem?_pos, z0, z1, z2, g3, w1]) | ((first | refine AWp.ret ?_ | refine AWp.skip ?_ | refine AWp.exit ?_); try simp only [thenP]) | (with_reducible refine zq7 ?_; simp only [blockP, thenP, reduceIte]) | with_reducible refine zq8 ?_)
            refine LL.go ⟨k + 1, hlt⟩ [0] ⟨by rfl, by simp [hs, pickI], by simp [or_imp, forall_and, hs, pickI] <;> (try (intro _hne; simp [_hne])), by decide⟩ ?_
            simp; omega
          · rw [if_neg fun h => g3 h.2] at hs
            repeat (first | (with_reducible first | refine zq1 fun _ => ?_ | refine zq2 fun _ => ?_ | refine zq3 ?_) | ((first | refine zq4 ?_ | refine zq5 fun _ _ => ?_ | refine zq6 ?_); simp [-getElem?_pos, z0, z1, z2, hki, hlt, ht]) | ((first | refine AWp.ret ?_ | refine AWp.skip ?_ | refine AWp.exit ?_); try simp only [thenP]) | (with_reducible refine zq7 ?_; simp only [blockP, thenP, reduceIte]) | with_reducible refine zq8 ?_)
            (first | refine Exec0.call [] cb ?_ rfl ?_ ?_ | refine Exec.call [] cb ?_ rfl ?_ ?_); (focus simp [-getElem?_pos, ht]); (focus simp [-getElem?_pos, z0, z1, z2, ht]); simp [-getElem?_pos, z0, z1, z2, ht]
            repeat (first | (with_reducible first | refine zq1 fun _ => ?_ | refine zq2 fun _ => ?_ | refine zq3 ?_) | ((first | refine zq4 ?_ | refine zq5 fun _ _ => ?_ | refine zq6 ?_); simp [-getElem?_pos, z0, z1, z2, g1, g2, hp, hpi, hjn, hjl, hji, ht2]) | ((first | refine AWp.ret ?_ | refine AWp.skip ?_ | refine AWp.exit ?_); try simp only [thenP]) | (with_reducible refine zq7 ?_; simp only [blockP, thenP, reduceIte]) | with_reducible refine zq8 ?_)
            (first | refine Exec0.call [] cb2 ?_ rfl ?_ ?_ | refine Exec.call [] cb2 ?_ rfl ?_ ?_); (focus simp [-getElem?_pos, g3]); (focus simp [-getElem?_pos, z0, z1, z2, g3]); simp [-getElem?_pos, z0, z1, z2, g3]
            repeat (first | (with_reducible first | refine zq1 fun _ => ?_ | refine zq2 fun _ => ?_ | refine zq3 ?_) | ((first | refine zq4 ?_ | refine zq5 fun _ _ => ?_ | refine zq6 ?_); simp [-getElem?_pos, z0, z1, z2, g3, w1]) | ((first | refine AWp.ret ?_ | refine AWp.skip ?_ | refine AWp.exit ?_); try simp only [thenP]) | (with_reducible refine zq7 ?_; simp only [blockP, thenP, reduceIte]) | with_reducible refine zq8 ?_)
            refine LL.go ⟨k + 1, hlt⟩ [0] ⟨by rfl, by simp [hs, pickI], by simp [or_imp, forall_and, hs, pickI] <;> (try (intro _hne; simp [_hne])), by decide⟩ ?_
            simp; omega
        · rw [if_neg fun h => g2 h.1.2] at hs
          repeat (first | (with_reducible first | refine zq1 fun _ => ?_ | refine zq2 fun _ => ?_ | refine zq3 ?_) | ((first | refine zq4 ?_ | refine zq5 fun _ _ => ?_ | refine zq6 ?_); simp [-getElem?_pos, z0, z1, z2, hki, hlt, ht]) | ((first | refine AWp.ret ?_ | refine AWp.skip ?_ | refine AWp.exit ?_); try simp only [thenP]) | (with_reducible refine zq7 ?_; simp only [blockP, thenP, reduceIte]) | with_reducible refine zq8 ?_)
          (first | refine Exec0.call [] cb ?_ rfl ?_ ?_ | refine Exec.call [] cb ?_ rfl ?_ ?_); (focus simp [-getElem?_pos, ht]); (focus simp [-getElem?_pos, z0, z1, z2, ht]); simp [-getElem?_pos, z0, z1, z2, ht]
          repeat (first | (with_reducible first | refine zq1 fun _ => ?_ | refine zq2 fun _ => ?_ | refine zq3 ?_) | ((first | refine zq4 ?_ | refine zq5 fun _ _ => ?_ | refine zq6 ?_); simp [-getElem?_pos, z0, z1, z2, g1, g2, hp, hpi, w1]) | ((first | refine AWp.ret ?_ | refine AWp.skip ?_ | refine AWp.exit ?_); try simp only [thenP]) | (with_reducible refine zq7 ?_; simp only [blockP, thenP, reduceIte]) | with_reducible refine zq8 ?_)
          refine LL.go ⟨k + 1, hlt⟩ [0] ⟨by rfl, by simp [hs, hp, pickI], by simp [or_imp, forall_and, hs, hp, pickI] <;> (try (intro _hne; simp [_hne])), by decide⟩ ?_
          simp; omega
      · rw [if_neg fun h => g1 h.1.1] at hs
        repeat (first | (with_reducible first | refine zq1 fun _ => ?_ | refine zq2 fun _ => ?_ | refine zq3 ?_) | ((first | refine zq4 ?_ | refine zq5 fun _ _ => ?_ | refine zq6 ?_); simp [-getElem?_pos, z0, z1, z2, hki, hlt, ht]) | ((first | refine AWp.ret ?_ | refine AWp.skip ?_ | refine AWp.exit ?_); try simp only [thenP]) | (with_reducible refine zq7 ?_; simp only [blockP, thenP, reduceIte]) | with_reducible refine zq8 ?_)
        (first | refine Exec0.call [] cb ?_ rfl ?_ ?_ | refine Exec.call [] cb ?_ rfl ?_ ?_); (focus simp [-getElem?_pos, ht]); (focus simp [-getElem?_pos, z0, z1, z2, ht]); simp [-getElem?_pos, z0, z1, z2, ht]
        repeat (first | (with_reducible first | refine zq1 fun _ => ?_ | refine zq2 fun _ => ?_ | refine zq3 ?_) | ((first | refine zq4 ?_ | refine zq5 fun _ _ => ?_ | refine zq6 ?_); simp [-getElem?_pos, z0, z1, z2, g1, hp, hpi, w1]) | ((first | refine AWp.ret ?_ | refine AWp.skip ?_ | refine AWp.exit ?_); try simp only [thenP]) | (with_reducible refine zq7 ?_; simp only [blockP, thenP, reduceIte]) | with_reducible refine zq8 ?_)
        refine LL.go ⟨k + 1, hlt⟩ [0] ⟨by rfl, by simp [hs, hp, pickI], by simp [or_imp, forall_and, hs, hp, pickI] <;> (try (intro _hne; simp [_hne])), by decide⟩ ?_
        simp; omega
  · obtain rfl : k = ps.length := by omega
    repeat (first | (with_reducible first | refine zq1 fun _ => ?_ | refine zq2 fun _ => ?_ | refine zq3 ?_) | ((first | refine zq4 ?_ | refine zq5 fun _ _ => ?_ | refine zq6 ?_); simp [-getElem?_pos, z0, z1, z2, hlt]) | ((first | refine AWp.ret ?_ | refine AWp.skip ?_ | refine AWp.exit ?_); try simp only [thenP]) | (with_reducible refine zq7 ?_; simp only [blockP, thenP, reduceIte]) | with_reducible refine zq8 ?_)
    (first | refine RR.ret ?_ | refine RR.normal ?_); simp [z0]
theorem pick_turn {s : RS} {ps : List Int} (ok : PulOk s ps) {x : Int} {k : Nat} (hp : pickR (betA s ps) x ps.length = some k) : ∃ t, ps[k]? = some t ∧ k < ps.length ∧ betA s ps k = betR s t ∧ 1 ≤ (betR s t).1 ∧ (betR s t).1 ≤ x := by
  have p := pick_some hp
  obtain ⟨t, ht⟩ : ∃ t, ps[k]? = some t := ⟨_, List.getElem?_eq_getElem p.lt⟩
  have h1 := p.at1
  rw [betA_at ht] at h1
  refine ⟨t, ht, p.lt, betA_at ht, ?_, h1⟩
  have := ok.g.s1
  simp only [betR]
  omega
end Go.Proofs.Ytdkneonokbakjaa.Eng

noncomputable section
namespace Go.Proofs.Ytdkneonokbakjaa.Eng
open Go.RowKit
set_option maxRecDepth 100000
set_option maxHeartbeats 8000000
def runsZ (l : List (Int × Nat)) : List (Int × Int) := l.map fun r => (r.1, (r.2 : Int))
@[simp] theorem runsZ_len (l : List (Int × Nat)) : (runsZ l).length = l.length := List.length_map _
def planL (A : Rgs) (n : Nat) (x down : Int) : List (Int × Int) := match gapR A n x down with
  | none => runsZ (runsR A n x down)
  | some _ => []
def wholeB (A : Rgs) (n : Nat) (x down : Int) : Bool := (gapR A n x down).isNone
theorem refplan_c (s : RS) (ps : List Int) (ok : PulOk s ps) (x0 down : Int) (hx0 : 0 ≤ x0 ∧ x0 ≤ 100000) : ACall Try.prog 64 [stoD s, intL ps, iD x0, iD down] (.tup [runsD (planL (betA s ps) ps.length x0 down), bD (wholeB (betA s ps) ps.length x0 down)]) := by
  have hg := ok.g
  have n2 := ok.n2
  have hs1 := hg.s1
  obtain ⟨G, hG⟩ : ∃ G, G = gapR (betA s ps) ps.length x0 down := ⟨_, rfl⟩
  obtain ⟨L, hL⟩ : ∃ L, L = runsZ (runsR (betA s ps) ps.length x0 down) := ⟨_, rfl⟩
  rw [planL, wholeB, ← hG, ← hL]
  refine acallK tabOk Try.func64 rfl rfl (show 4 ≤ _ by decide) rfl fun _ => ?_; simp only [Try.ntmps64]
  repeat (first | (with_reducible first | refine zq1 fun _ => ?_ | refine zq2 fun _ => ?_ | refine zq3 ?_) | ((first | refine zq4 ?_ | refine zq5 fun _ _ => ?_ | refine zq6 ?_); simp [-getElem?_pos, z0, z1, z2, z0]) | ((first | refine AWp.ret ?_ | refine AWp.skip ?_ | refine AWp.exit ?_); try simp only [thenP]) | (with_reducible refine zq7 ?_; simp only [blockP, thenP, reduceIte]) | with_reducible refine zq8 ?_)
  refine AWp.loopK (ι := { q : Int × List (Int × Int) // G = gapR (betA s ps) ps.length q.1 down ∧ L = q.2 ++ runsZ (runsR (betA s ps) ps.length q.1 down) ∧ q.1 ≤ x0 ∧ 0 ≤ q.1 ∧ (q.2.length : Int) + q.1 ≤ x0 }) (n := 2) (fun q => [(1, .d (intL ps)), (3, .d (iD down)), (4, .ptr 0 0 0), (10, gS 1 2 (runRows q.1.2)), (11, .d (iD q.1.1))]) (fun q => (0, .box 25 [.d (iD s.long), .d (iD s.short), .d (iD s.off), .d (iD s.lo), .d (iD s.hi)] false) :: gM 1 59 2 (runRows q.1.2)) (fun q => (q.1.1 + 1 - down).toNat) ⟨(x0, []), hG, hL, Int.le_refl _, hx0.1, by simp⟩ [0, 1] ?_ ?_
  · refine ⟨by rfl, by simp [runRows], by simp [or_imp, forall_and, runRows] <;> (try (intro _hne; simp [_hne])), by decide⟩
  rintro ⟨⟨x, S⟩, i1, i2, i3, i4, i5⟩ kk
  simp only at i1 i2 i3 i4 i5 ⊢
  have cb := refBest_c s ps ok x
  have hSr := runRows_len S
  by_cases hlt : down ≤ x
  · cases hp : pickR (betA s ps) x ps.length with
    | none =>
      have hres := i1.trans (gap_here (by omega) hp)
      rw [hp] at cb
      repeat (first | (with_reducible first | refine zq1 fun _ => ?_ | refine zq2 fun _ => ?_ | refine zq3 ?_) | ((first | refine zq4 ?_ | refine zq5 fun _ _ => ?_ | refine zq6 ?_); simp [-getElem?_pos, z0, z1, z2, hlt]) | ((first | refine AWp.ret ?_ | refine AWp.skip ?_ | refine AWp.exit ?_); try simp only [thenP]) | (with_reducible refine zq7 ?_; simp only [blockP, thenP, reduceIte]) | with_reducible refine zq8 ?_)
      (first | refine Exec0.call [] cb ?_ rfl ?_ ?_ | refine Exec.call [] cb ?_ rfl ?_ ?_); (focus simp [-getElem?_pos, pickI]); (focus simp [-getElem?_pos, z0, z1, z2, pickI]); simp [-getElem?_pos, z0, z1, z2, pickI]
      repeat (first | (with_reducible first | refine zq1 fun _ => ?_ | refine zq2 fun _ => ?_ | refine zq3 ?_) | ((first | refine zq4 ?_ | refine zq5 fun _ _ => ?_ | refine zq6 ?_); simp [-getElem?_pos, z0, z1, z2, pickI]) | ((first | refine AWp.ret ?_ | refine AWp.skip ?_ | refine AWp.exit ?_); try simp only [thenP]) | (with_reducible refine zq7 ?_; simp only [blockP, thenP, reduceIte]) | with_reducible refine zq8 ?_)
      (first | refine RR.ret ?_ | refine RR.normal ?_); simp [hres, runRows]
    | some k =>
      obtain ⟨t, ht, hk, he, h1, h2⟩ := pick_turn ok hp
      have hres := i1.trans (gap_step (by omega) hp)
      have hrun := runs_step (A := betA s ps) (n := ps.length) (x := x) (down := down) (by omega) hp
      rw [he] at hres hrun
      rw [hp, show pickI (some k) = (k : Int) from rfl] at cb
      have cB := refBetween_c s t (ok.turn ht) hg
      generalize betR s t = q at *
      obtain ⟨lo, hi⟩ := q
      simp only at h1 h2 hres hrun
      have hki : (k : Int) < ps.length := by omega
      have hkn : ¬ (k : Int) < 0 := by omega
      have w1 : IntKind.i64.wrap (lo - 1) = lo - 1 := wrap64_in (by omega)
      have hnx : L = (S ++ [(x, (k : Int))]) ++ runsZ (runsR (betA s ps) ps.length (lo - 1) down) := by
        rw [i2, hrun]
        simp [runsZ]
      have hSq : runRows (S ++ [(x, (k : Int))]) = runRows S ++ [[iD x, iD (k : Int)]] := by simp [runRows]
      obtain hR | ⟨r, o, hR⟩ : runRows S = [] ∨ ∃ r o, runRows S = r :: o := by
        cases runRows S with
        | nil => exact .inl rfl
        | cons r o => exact .inr ⟨r, o, rfl⟩
      · repeat (first | (with_reducible first | refine zq1 fun _ => ?_ | refine zq2 fun _ => ?_ | refine zq3 ?_) | ((first | refine zq4 ?_ | refine zq5 fun _ _ => ?_ | refine zq6 ?_); simp [-getElem?_pos, z0, z1, z2, hlt, hR]) | ((first | refine AWp.ret ?_ | refine AWp.skip ?_ | refine AWp.exit ?_); try simp only [thenP]) | (with_reducible refine zq7 ?_; simp only [blockP, thenP, reduceIte]) | with_reducible refine zq8 ?_)
        (first | refine Exec0.call [] cb ?_ rfl ?_ ?_ | refine Exec.call [] cb ?_ rfl ?_ ?_); (focus simp [-getElem?_pos, z0]); (focus simp [-getElem?_pos, z0, z1, z2, z0]); simp [-getElem?_pos, z0, z1, z2, z0]
        repeat (first | (with_reducible first | refine zq1 fun _ => ?_ | refine zq2 fun _ => ?_ | refine zq3 ?_) | ((first | refine zq4 ?_ | refine zq5 fun _ _ => ?_ | refine zq6 ?_); simp [-getElem?_pos, z0, z1, z2, hki, hk, hkn, ht, hR]) | ((first | refine AWp.ret ?_ | refine AWp.skip ?_ | refine AWp.exit ?_); try simp only [thenP]) | (with_reducible refine zq7 ?_; simp only [blockP, thenP, reduceIte]) | with_reducible refine zq8 ?_)
        (first | refine Exec0.call [] cB ?_ rfl ?_ ?_ | refine Exec.call [] cB ?_ rfl ?_ ?_); (focus simp [-getElem?_pos, w1]); (focus simp [-getElem?_pos, z0, z1, z2, w1]); simp [-getElem?_pos, z0, z1, z2, w1]
        repeat (first | (with_reducible first | refine zq1 fun _ => ?_ | refine zq2 fun _ => ?_ | refine zq3 ?_) | ((first | refine zq4 ?_ | refine zq5 fun _ _ => ?_ | refine zq6 ?_); simp [-getElem?_pos, z0, z1, z2, w1]) | ((first | refine AWp.ret ?_ | refine AWp.skip ?_ | refine AWp.exit ?_); try simp only [thenP]) | (with_reducible refine zq7 ?_; simp only [blockP, thenP, reduceIte]) | with_reducible refine zq8 ?_)
        refine LL.go ⟨(lo - 1, S ++ [(x, (k : Int))]), hres, hnx, by omega, by omega, by simp; omega⟩ [0, 17] ⟨by rfl, by simp [hSq, hR], by simp [or_imp, forall_and, hSq, hR] <;> (try (intro _hne; simp [_hne])), by decide⟩ ?_
        simp; omega
      · rw [hR] at hSr
        simp only [List.length_cons] at hSr
        have hX2 : ∀ q ∈ runRows S, q.length = 2 := fun q hq => by
          obtain ⟨z, -, rfl⟩ := List.mem_map.1 hq
          rfl
        rw [hR] at hX2
        have hr2 : r.length = 2 := hX2 r List.mem_cons_self
        have ho2 : (∀ q ∈ o, q.length = 2) = True := eq_true fun q hq => hX2 q (List.mem_cons_of_mem _ hq)
        have f1 : fitsB (o.length + 1 + 1) 16 = true := fitsB_small (by omega) (by omega)
        repeat (first | (with_reducible first | refine zq1 fun _ => ?_ | refine zq2 fun _ => ?_ | refine zq3 ?_) | ((first | refine zq4 ?_ | refine zq5 fun _ _ => ?_ | refine zq6 ?_); simp [-getElem?_pos, z0, z1, z2, hlt, hR]) | ((first | refine AWp.ret ?_ | refine AWp.skip ?_ | refine AWp.exit ?_); try simp only [thenP]) | (with_reducible refine zq7 ?_; simp only [blockP, thenP, reduceIte]) | with_reducible refine zq8 ?_)
        (first | refine Exec0.call [] cb ?_ rfl ?_ ?_ | refine Exec.call [] cb ?_ rfl ?_ ?_); (focus simp [-getElem?_pos, z0]); (focus simp [-getElem?_pos, z0, z1, z2, z0]); simp [-getElem?_pos, z0, z1, z2, z0]
        repeat (first | (with_reducible first | refine zq1 fun _ => ?_ | refine zq2 fun _ => ?_ | refine zq3 ?_) | ((first | refine zq4 ?_ | refine zq5 fun _ _ => ?_ | refine zq6 ?_); simp [-getElem?_pos, z0, z1, z2, hki, hk, hkn, ht, hR, f1, hr2, ho2]) | ((first | refine AWp.ret ?_ | refine AWp.skip ?_ | refine AWp.exit ?_); try simp only [thenP]) | (with_reducible refine zq7 ?_; simp only [blockP, thenP, reduceIte]) | with_reducible refine zq8 ?_)
        (first | refine Exec0.call [] cB ?_ rfl ?_ ?_ | refine Exec.call [] cB ?_ rfl ?_ ?_); (focus simp [-getElem?_pos, w1]); (focus simp [-getElem?_pos, z0, z1, z2, w1]); simp [-getElem?_pos, z0, z1, z2, w1]
        repeat (first | (with_reducible first | refine zq1 fun _ => ?_ | refine zq2 fun _ => ?_ | refine zq3 ?_) | ((first | refine zq4 ?_ | refine zq5 fun _ _ => ?_ | refine zq6 ?_); simp [-getElem?_pos, z0, z1, z2, w1]) | ((first | refine AWp.ret ?_ | refine AWp.skip ?_ | refine AWp.exit ?_); try simp only [thenP]) | (with_reducible refine zq7 ?_; simp only [blockP, thenP, reduceIte]) | with_reducible refine zq8 ?_)
        refine LL.go ⟨(lo - 1, S ++ [(x, (k : Int))]), hres, hnx, by omega, by omega, by simp; omega⟩ [0, 17] ⟨by rfl, by simp [hSq, hR], by simp [or_imp, forall_and, hSq, hR] <;> (try (intro _hne; simp [_hne])), by decide⟩ ?_
        simp; omega
  · have hres := i1.trans (gap_stop (by omega))
    rw [runs_stop (by omega), show runsZ [] = [] from rfl, List.append_nil] at i2
    rcases hR : runRows S with _ | ⟨r, o⟩
    · repeat (first | (with_reducible first | refine zq1 fun _ => ?_ | refine zq2 fun _ => ?_ | refine zq3 ?_) | ((first | refine zq4 ?_ | refine zq5 fun _ _ => ?_ | refine zq6 ?_); simp [-getElem?_pos, z0, z1, z2, hlt, hR]) | ((first | refine AWp.ret ?_ | refine AWp.skip ?_ | refine AWp.exit ?_); try simp only [thenP]) | (with_reducible refine zq7 ?_; simp only [blockP, thenP, reduceIte]) | with_reducible refine zq8 ?_)
      (first | refine RR.ret ?_ | refine RR.normal ?_); simp [hres, i2, hR]
    · repeat (first | (with_reducible first | refine zq1 fun _ => ?_ | refine zq2 fun _ => ?_ | refine zq3 ?_) | ((first | refine zq4 ?_ | refine zq5 fun _ _ => ?_ | refine zq6 ?_); simp [-getElem?_pos, z0, z1, z2, hlt, hR]) | ((first | refine AWp.ret ?_ | refine AWp.skip ?_ | refine AWp.exit ?_); try simp only [thenP]) | (with_reducible refine zq7 ?_; simp only [blockP, thenP, reduceIte]) | with_reducible refine zq8 ?_)
      (first | refine RR.ret ?_ | refine RR.normal ?_); simp [hres, i2, hR]
def planE (s : RS) (ps : List Int) : Int := if stoE s ps = 0 then (if wholeB (betA s ps) ps.length s.long s.short then 0 else 19) else stoE s ps
def planO (s : RS) (ps : List Int) : List (Int × Int) := if stoE s ps = 0 then planL (betA s ps) ps.length s.long s.short else []
theorem planL_no {A : Rgs} {n : Nat} {x down : Int} (h : wholeB A n x down = false) : planL A n x down = [] := by
  unfold wholeB at h
  unfold planL
  cases hg : gapR A n x down with
  | none => rw [hg] at h; cases h
  | some y => rfl
theorem runs_short {A : Rgs} {n : Nat} {down : Int} (x : Int) : ((runsR A n x down).length : Int) ≤ max 0 (x + 1 - down) := by
  refine runs_ind (A := A) (n := n) (down := down) (C := fun x => ((runsR A n x down).length : Int) ≤ max 0 (x + 1 - down)) ?_ ?_ ?_ x
  · intro x h
    rw [runs_stop h]
    simp; omega
  · intro x h hp
    rw [runs_gap hp]
    simp; omega
  · intro x k h hp ih
    rw [runs_step h hp]
    have := (pick_some hp).at1
    simp only [List.length_cons]
    omega
theorem planL_short {A : Rgs} {n : Nat} {x down : Int} (hx : x ≤ 100000) (hd : 1 ≤ down) : (planL A n x down).length ≤ 100000 := by
  unfold planL
  split
  · have := runs_short (A := A) (n := n) (down := down) x
    simp
    omega
  · simp
theorem refPlan_c (s : RS) (ps : List Int) (hl : ps.length ≤ 1000000) : ACall Try.prog 29 [stoD s, intL ps] (.tup [runsD (planO s ps), iD (planE s ps)]) := by
  have cs := refCheckStone_c s ps hl
  by_cases h0 : stoE s ps = 0
  · have ok := stoE_ok.1 h0
    have hg := ok.g
    have := hg.s1; have := hg.s2; have := hg.s3
    have cp := refplan_c s ps ok.pul s.long s.short (by omega)
    have hE : planE s ps = if wholeB (betA s ps) ps.length s.long s.short then 0 else 19 := by rw [planE, if_pos h0]
    have hO : planO s ps = planL (betA s ps) ps.length s.long s.short := by rw [planO, if_pos h0]
    have hno := planL_no (A := betA s ps) (n := ps.length) (x := s.long) (down := s.short)
    rw [hE, hO]
    rw [h0] at cs
    generalize planL (betA s ps) ps.length s.long s.short = L at *
    cases hw : wholeB (betA s ps) ps.length s.long s.short with
    | true =>
      rw [hw] at cp
      refine acallK tabOk Try.func29 rfl rfl (show 2 ≤ _ by decide) rfl fun _ => ?_; simp only [Try.ntmps29]
      repeat (first | (with_reducible first | refine zq1 fun _ => ?_ | refine zq2 fun _ => ?_ | refine zq3 ?_) | ((first | refine zq4 ?_ | refine zq5 fun _ _ => ?_ | refine zq6 ?_); simp [-getElem?_pos, z0, z1, z2, z0]) | ((first | refine AWp.ret ?_ | refine AWp.skip ?_ | refine AWp.exit ?_); try simp only [thenP]) | (with_reducible refine zq7 ?_; simp only [blockP, thenP, reduceIte]) | with_reducible refine zq8 ?_)
      (first | refine Exec0.call [] cs ?_ rfl ?_ ?_ | refine Exec.call [] cs ?_ rfl ?_ ?_); (focus simp [-getElem?_pos, z0]); (focus simp [-getElem?_pos, z0, z1, z2, z0]); simp [-getElem?_pos, z0, z1, z2, z0]
      repeat (first | (with_reducible first | refine zq1 fun _ => ?_ | refine zq2 fun _ => ?_ | refine zq3 ?_) | ((first | refine zq4 ?_ | refine zq5 fun _ _ => ?_ | refine zq6 ?_); simp [-getElem?_pos, z0, z1, z2, z0]) | ((first | refine AWp.ret ?_ | refine AWp.skip ?_ | refine AWp.exit ?_); try simp only [thenP]) | (with_reducible refine zq7 ?_; simp only [blockP, thenP, reduceIte]) | with_reducible refine zq8 ?_)
      (first | refine Exec0.call [] cp ?_ rfl ?_ ?_ | refine Exec.call [] cp ?_ rfl ?_ ?_); (focus simp [-getElem?_pos, z0]); (focus simp [-getElem?_pos, z0, z1, z2, z0]); simp [-getElem?_pos, z0, z1, z2, z0]
      repeat (first | (with_reducible first | refine zq1 fun _ => ?_ | refine zq2 fun _ => ?_ | refine zq3 ?_) | ((first | refine zq4 ?_ | refine zq5 fun _ _ => ?_ | refine zq6 ?_); simp [-getElem?_pos, z0, z1, z2, z0]) | ((first | refine AWp.ret ?_ | refine AWp.skip ?_ | refine AWp.exit ?_); try simp only [thenP]) | (with_reducible refine zq7 ?_; simp only [blockP, thenP, reduceIte]) | with_reducible refine zq8 ?_)
      (first | refine RR.ret ?_ | refine RR.normal ?_); simp [z0]
    | false =>
      have hL := hno hw
      rw [hw] at cp
      refine acallK tabOk Try.func29 rfl rfl (show 2 ≤ _ by decide) rfl fun _ => ?_; simp only [Try.ntmps29]
      repeat (first | (with_reducible first | refine zq1 fun _ => ?_ | refine zq2 fun _ => ?_ | refine zq3 ?_) | ((first | refine zq4 ?_ | refine zq5 fun _ _ => ?_ | refine zq6 ?_); simp [-getElem?_pos, z0, z1, z2, z0]) | ((first | refine AWp.ret ?_ | refine AWp.skip ?_ | refine AWp.exit ?_); try simp only [thenP]) | (with_reducible refine zq7 ?_; simp only [blockP, thenP, reduceIte]) | with_reducible refine zq8 ?_)
      (first | refine Exec0.call [] cs ?_ rfl ?_ ?_ | refine Exec.call [] cs ?_ rfl ?_ ?_); (focus simp [-getElem?_pos, z0]); (focus simp [-getElem?_pos, z0, z1, z2, z0]); simp [-getElem?_pos, z0, z1, z2, z0]
      repeat (first | (with_reducible first | refine zq1 fun _ => ?_ | refine zq2 fun _ => ?_ | refine zq3 ?_) | ((first | refine zq4 ?_ | refine zq5 fun _ _ => ?_ | refine zq6 ?_); simp [-getElem?_pos, z0, z1, z2, z0]) | ((first | refine AWp.ret ?_ | refine AWp.skip ?_ | refine AWp.exit ?_); try simp only [thenP]) | (with_reducible refine zq7 ?_; simp only [blockP, thenP, reduceIte]) | with_reducible refine zq8 ?_)
      (first | refine Exec0.call [] cp ?_ rfl ?_ ?_ | refine Exec.call [] cp ?_ rfl ?_ ?_); (focus simp [-getElem?_pos, z0]); (focus simp [-getElem?_pos, z0, z1, z2, z0]); simp [-getElem?_pos, z0, z1, z2, z0]
      repeat (first | (with_reducible first | refine zq1 fun _ => ?_ | refine zq2 fun _ => ?_ | refine zq3 ?_) | ((first | refine zq4 ?_ | refine zq5 fun _ _ => ?_ | refine zq6 ?_); simp [-getElem?_pos, z0, z1, z2, z0]) | ((first | refine AWp.ret ?_ | refine AWp.skip ?_ | refine AWp.exit ?_); try simp only [thenP]) | (with_reducible refine zq7 ?_; simp only [blockP, thenP, reduceIte]) | with_reducible refine zq8 ?_)
      (first | refine RR.ret ?_ | refine RR.normal ?_); simp [hL, runRows]
  · have hE : planE s ps = stoE s ps := by rw [planE, if_neg h0]
    have hO : planO s ps = [] := by rw [planO, if_neg h0]
    rw [hE, hO]
    refine acallK tabOk Try.func29 rfl rfl (show 2 ≤ _ by decide) rfl fun _ => ?_; simp only [Try.ntmps29]
    repeat (first | (with_reducible first | refine zq1 fun _ => ?_ | refine zq2 fun _ => ?_ | refine zq3 ?_) | ((first | refine zq4 ?_ | refine zq5 fun _ _ => ?_ | refine zq6 ?_); simp [-getElem?_pos, z0, z1, z2, z0]) | ((first | refine AWp.ret ?_ | refine AWp.skip ?_ | refine AWp.exit ?_); try simp only [thenP]) | (with_reducible refine zq7 ?_; simp only [blockP, thenP, reduceIte]) | with_reducible refine zq8 ?_)
    (first | refine Exec0.call [] cs ?_ rfl ?_ ?_ | refine Exec.call [] cs ?_ rfl ?_ ?_); (focus simp [-getElem?_pos, h0]); (focus simp [-getElem?_pos, z0, z1, z2, h0]); simp [-getElem?_pos, z0, z1, z2, h0]
    repeat (first | (with_reducible first | refine zq1 fun _ => ?_ | refine zq2 fun _ => ?_ | refine zq3 ?_) | ((first | refine zq4 ?_ | refine zq5 fun _ _ => ?_ | refine zq6 ?_); simp [-getElem?_pos, z0, z1, z2, h0]) | ((first | refine AWp.ret ?_ | refine AWp.skip ?_ | refine AWp.exit ?_); try simp only [thenP]) | (with_reducible refine zq7 ?_; simp only [blockP, thenP, reduceIte]) | with_reducible refine zq8 ?_)
    (first | refine Exec0.call [] cs ?_ rfl ?_ ?_ | refine Exec.call [] cs ?_ rfl ?_ ?_); (focus simp [-getElem?_pos, h0]); (focus simp [-getElem?_pos, z0, z1, z2, h0]); simp [-getElem?_pos, z0, z1, z2, h0]
    repeat (first | (with_reducible first | refine zq1 fun _ => ?_ | refine zq2 fun _ => ?_ | refine zq3 ?_) | ((first | refine zq4 ?_ | refine zq5 fun _ _ => ?_ | refine zq6 ?_); simp [-getElem?_pos, z0, z1, z2, h0]) | ((first | refine AWp.ret ?_ | refine AWp.skip ?_ | refine AWp.exit ?_); try simp only [thenP]) | (with_reducible refine zq7 ?_; simp only [blockP, thenP, reduceIte]) | with_reducible refine zq8 ?_)
    (first | refine RR.ret ?_ | refine RR.normal ?_); simp [runRows]
theorem planO_short (s : RS) (ps : List Int) : (planO s ps).length ≤ 100000 := by
  unfold planO
  split
  · rename_i h0
    have ok := (stoE_ok.1 h0).g
    exact planL_short ok.s3 ok.s1
  · simp
theorem planO_no {s : RS} {ps : List Int} (h : planE s ps ≠ 0) : planO s ps = [] := by
  unfold planE at h
  unfold planO
  split
  · rename_i h0
    rw [if_pos h0] at h
    cases hw : wholeB (betA s ps) ps.length s.long s.short with
    | true => rw [hw] at h; simp at h
    | false => exact planL_no hw
  · rfl
theorem grow_fst (L : List (Int × Int)) : ∃ T : Nat → List Int, T 0 = [] ∧ (∀ i, (T i).length ≤ i) ∧ (∀ i x p, L[i]? = some (x, p) → T (i + 1) = T i ++ [x]) ∧ T L.length = L.map (·.1) :=
  ⟨fun i => (L.take i).map (·.1), rfl, fun i => by rw [List.length_map, List.length_take]; omega, fun i x p h => by simp only; rw [List.take_add_one, h, List.map_append]; rfl, by simp only; rw [List.take_length]⟩
def ptsO (s : RS) (ps : List Int) : List Int := (planO s ps).map (·.1)
theorem refPoints_c (s : RS) (ps : List Int) (hl : ps.length ≤ 1000000) : ACall Try.prog 31 [stoD s, intL ps] (.tup [intL (ptsO s ps), iD (planE s ps)]) := by
  have cp := refPlan_c s ps hl
  have hsh := planO_short s ps
  have hno := planO_no (s := s) (ps := ps)
  unfold ptsO
  obtain ⟨T, hT0, hTl, hTn, hTe⟩ := grow_fst (planO s ps)
  rw [← hTe]
  generalize planO s ps = L at *
  generalize planE s ps = e at *
  by_cases he : e = 0
  · subst he
    refine acallK tabOk Try.func31 rfl rfl (show 2 ≤ _ by decide) rfl fun _ => ?_; simp only [Try.ntmps31]
    repeat (first | (with_reducible first | refine zq1 fun _ => ?_ | refine zq2 fun _ => ?_ | refine zq3 ?_) | ((first | refine zq4 ?_ | refine zq5 fun _ _ => ?_ | refine zq6 ?_); simp [-getElem?_pos, z0, z1, z2, z0]) | ((first | refine AWp.ret ?_ | refine AWp.skip ?_ | refine AWp.exit ?_); try simp only [thenP]) | (with_reducible refine zq7 ?_; simp only [blockP, thenP, reduceIte]) | with_reducible refine zq8 ?_)
    (first | refine Exec0.call [] cp ?_ rfl ?_ ?_ | refine Exec.call [] cp ?_ rfl ?_ ?_); (focus simp [-getElem?_pos, z0]); (focus simp [-getElem?_pos, z0, z1, z2, z0]); simp [-getElem?_pos, z0, z1, z2, z0]
    repeat (first | (with_reducible first | refine zq1 fun _ => ?_ | refine zq2 fun _ => ?_ | refine zq3 ?_) | ((first | refine zq4 ?_ | refine zq5 fun _ _ => ?_ | refine zq6 ?_); simp [-getElem?_pos, z0, z1, z2, z0]) | ((first | refine AWp.ret ?_ | refine AWp.skip ?_ | refine AWp.exit ?_); try simp only [thenP]) | (with_reducible refine zq7 ?_; simp only [blockP, thenP, reduceIte]) | with_reducible refine zq8 ?_)
    refine AWp.loopK (ι := { i : Nat // i ≤ L.length }) (n := 1) (fun i => [(6, .d (runsD L)), (8, gS 0 1 (iRows (T i.1))), (9, .d (iD i.1))]) (fun i => gM 0 2 1 (iRows (T i.1))) (fun i => L.length - i.1) ⟨0, Nat.zero_le _⟩ [0] ?_ ?_
    · refine ⟨by rfl, by simp [iRows, hT0], by simp [or_imp, forall_and, iRows, hT0] <;> (try (intro _hne; simp [_hne])), by decide⟩
    rintro ⟨i, hi⟩ kk
    have w1 : IntKind.i64.wrap ((i : Int) + 1) = (i : Int) + 1 := wrap64_in (by omega)
    have hSl := hTl i
    have hSr := iRows_len (T i)
    by_cases hlt : i < L.length
    · have hii : (i : Int) < L.length := by omega
      obtain ⟨⟨x, p⟩, hx⟩ : ∃ r, L[i]? = some r := ⟨_, List.getElem?_eq_getElem hlt⟩
      have hSq : iRows (T (i + 1)) = iRows (T i) ++ [[iD x]] := by rw [hTn i x p hx]; simp [iRows]
      obtain hR | ⟨r, o, hR⟩ : iRows (T i) = [] ∨ ∃ r o, iRows (T i) = r :: o := by
        cases iRows (T i) with
        | nil => exact .inl rfl
        | cons r o => exact .inr ⟨r, o, rfl⟩
      · repeat (first | (with_reducible first | refine zq1 fun _ => ?_ | refine zq2 fun _ => ?_ | refine zq3 ?_) | ((first | refine zq4 ?_ | refine zq5 fun _ _ => ?_ | refine zq6 ?_); simp [-getElem?_pos, z0, z1, z2, hii, hlt, hx, hR, w1]) | ((first | refine AWp.ret ?_ | refine AWp.skip ?_ | refine AWp.exit ?_); try simp only [thenP]) | (with_reducible refine zq7 ?_; simp only [blockP, thenP, reduceIte]) | with_reducible refine zq8 ?_)
        refine LL.go ⟨i + 1, hlt⟩ [12] ⟨by rfl, by simp [hSq, hR], by simp [or_imp, forall_and, hSq, hR] <;> (try (intro _hne; simp [_hne])), by decide⟩ ?_
        simp; omega
      · rw [hR] at hSr
        simp only [List.length_cons] at hSr
        have f1 : fitsB (o.length + 1 + 1) 8 = true := fitsB_small (by omega) (by omega)
        repeat (first | (with_reducible first | refine zq1 fun _ => ?_ | refine zq2 fun _ => ?_ | refine zq3 ?_) | ((first | refine zq4 ?_ | refine zq5 fun _ _ => ?_ | refine zq6 ?_); simp [-getElem?_pos, z0, z1, z2, hii, hlt, hx, hR, w1, f1]) | ((first | refine AWp.ret ?_ | refine AWp.skip ?_ | refine AWp.exit ?_); try simp only [thenP]) | (with_reducible refine zq7 ?_; simp only [blockP, thenP, reduceIte]) | with_reducible refine zq8 ?_)
        refine LL.go ⟨i + 1, hlt⟩ [12] ⟨by rfl, by simp [hSq, hR], by simp [or_imp, forall_and, hSq, hR] <;> (try (intro _hne; simp [_hne])), by decide⟩ ?_
        simp; omega
    · obtain rfl : i = L.length := by omega
      rcases hR : iRows (T L.length) with _ | ⟨r, o⟩
      · rw [hR] at hSr
        have : T L.length = [] := List.length_eq_zero_iff.1 (by simpa using hSr.symm)
        repeat (first | (with_reducible first | refine zq1 fun _ => ?_ | refine zq2 fun _ => ?_ | refine zq3 ?_) | ((first | refine zq4 ?_ | refine zq5 fun _ _ => ?_ | refine zq6 ?_); simp [-getElem?_pos, z0, z1, z2, hlt, hR]) | ((first | refine AWp.ret ?_ | refine AWp.skip ?_ | refine AWp.exit ?_); try simp only [thenP]) | (with_reducible refine zq7 ?_; simp only [blockP, thenP, reduceIte]) | with_reducible refine zq8 ?_)
        (first | refine RR.ret ?_ | refine RR.normal ?_); simp [this]
      · repeat (first | (with_reducible first | refine zq1 fun _ => ?_ | refine zq2 fun _ => ?_ | refine zq3 ?_) | ((first | refine zq4 ?_ | refine zq5 fun _ _ => ?_ | refine zq6 ?_); simp [-getElem?_pos, z0, z1, z2, hlt, hR]) | ((first | refine AWp.ret ?_ | refine AWp.skip ?_ | refine AWp.exit ?_); try simp only [thenP]) | (with_reducible refine zq7 ?_; simp only [blockP, thenP, reduceIte]) | with_reducible refine zq8 ?_)
        (first | refine RR.ret ?_ | refine RR.normal ?_); simp [intL, hR]
  · have hL := hno he
    subst hL
    have hT00 : T ([] : List (Int × Int)).length = [] := hT0
    refine acallK tabOk Try.func31 rfl rfl (show 2 ≤ _ by decide) rfl fun _ => ?_; simp only [Try.ntmps31]
    repeat (first | (with_reducible first | refine zq1 fun _ => ?_ | refine zq2 fun _ => ?_ | refine zq3 ?_) | ((first | refine zq4 ?_ | refine zq5 fun _ _ => ?_ | refine zq6 ?_); simp [-getElem?_pos, z0, z1, z2, z0]) | ((first | refine AWp.ret ?_ | refine AWp.skip ?_ | refine AWp.exit ?_); try simp only [thenP]) | (with_reducible refine zq7 ?_; simp only [blockP, thenP, reduceIte]) | with_reducible refine zq8 ?_)
    (first | refine Exec0.call [] cp ?_ rfl ?_ ?_ | refine Exec.call [] cp ?_ rfl ?_ ?_); (focus simp [-getElem?_pos, he]); (focus simp [-getElem?_pos, z0, z1, z2, he]); simp [-getElem?_pos, z0, z1, z2, he]
    repeat (first | (with_reducible first | refine zq1 fun _ => ?_ | refine zq2 fun _ => ?_ | refine zq3 ?_) | ((first | refine zq4 ?_ | refine zq5 fun _ _ => ?_ | refine zq6 ?_); simp [-getElem?_pos, z0, z1, z2, he]) | ((first | refine AWp.ret ?_ | refine AWp.skip ?_ | refine AWp.exit ?_); try simp only [thenP]) | (with_reducible refine zq7 ?_; simp only [blockP, thenP, reduceIte]) | with_reducible refine zq8 ?_)
    (first | refine RR.ret ?_ | refine RR.normal ?_); simp [iRows, hT0]
end Go.Proofs.Ytdkneonokbakjaa.Eng

noncomputable section
namespace Go.Proofs.Ytdkneonokbakjaa.Eng
open Go.RowKit
set_option maxRecDepth 100000
set_option maxHeartbeats 16000000
theorem all_succ {f : Nat → Bool} {k : Nat} (h : (List.range k).all f = true) (hk : f k = true) : (List.range (k + 1)).all f = true := by
  rw [List.range_succ, List.all_append, h]
  simp [hk]
theorem all_no {f : Nat → Bool} {n k : Nat} (hk : k < n) (h : f k = false) : (List.range n).all f = false := by
  rw [List.all_eq_false]
  exact ⟨k, List.mem_range.2 hk, by simp [h]⟩
theorem all_at {f : Nat → Bool} {n k : Nat} (h : (List.range n).all f = true) (hk : k < n) : f k = true := List.all_eq_true.1 h k (List.mem_range.2 hk)
def endR (s : RS) (l : List (Int × Int)) (i : Nat) : Int := match l[i + 1]? with
  | some r => r.1 + 1
  | none => s.short
def okRun (s : RS) (n : Nat) (l : List (Int × Int)) (i : Nat) : Bool := match l[i]? with
  | none => true
  | some r => (((if i = 0 then decide (r.1 = s.long) else match l[i - 1]? with
    | some p => decide (r.1 < p.1)
    | none => true) && decide (s.short ≤ r.1)) && decide (0 ≤ r.2)) && decide (r.2 < n)
theorem okRun_at {s : RS} {n : Nat} {l : List (Int × Int)} {i : Nat} {x p : Int} (h : l[i]? = some (x, p)) : okRun s n l i = ((((if i = 0 then decide (x = s.long) else match l[i - 1]? with
    | some p => decide (x < p.1)
    | none => true) && decide (s.short ≤ x)) && decide (0 ≤ p)) && decide (p < n)) := by
  unfold okRun
  rw [h]
def turnAt (ps : List Int) (p : Int) : Int := ps.getD p.toNat 0
def rimOk (s : RS) (ps : List Int) (l : List (Int × Int)) (i : Nat) : Bool := match l[i]? with
  | none => true
  | some r => okAt s (turnAt ps r.2) r.1 && okAt s (turnAt ps r.2) (endR s l i)
def cplE (s : RS) (ps : List Int) (l : List (Int × Int)) : Int := if stoE s ps = 0 then (if l.length < 1 ∨ 20 < l.length then 6 else if (List.range l.length).all (okRun s ps.length l) = true then (if (List.range l.length).all (rimOk s ps l) = true then 0 else 19) else 3) else stoE s ps
theorem runs_in {s : RS} {n : Nat} {l : List (Int × Int)} (h : (List.range l.length).all (okRun s n l) = true) : ∀ (i : Nat) (x p : Int), l[i]? = some (x, p) → s.short ≤ x ∧ x ≤ s.long ∧ 0 ≤ p ∧ p < n
  | 0, x, p, hx => by
    have h0 := all_at h (List.getElem?_eq_some_iff.1 hx).1
    rw [okRun_at hx] at h0
    simp only [if_true, Bool.and_eq_true, decide_eq_true_eq] at h0
    omega
  | i + 1, x, p, hx => by
    have hlt := (List.getElem?_eq_some_iff.1 hx).1
    have h0 := all_at h hlt
    rw [okRun_at hx] at h0
    obtain ⟨⟨y, q⟩, hy⟩ : ∃ r, l[i]? = some r := ⟨_, List.getElem?_eq_getElem (by omega)⟩
    obtain ⟨-, h2, -⟩ := runs_in h i y q hy
    simp only [Nat.succ_ne_zero, if_false, Nat.add_sub_cancel, hy, Bool.and_eq_true, decide_eq_true_eq] at h0
    omega
theorem runs_dec {s : RS} {n : Nat} {l : List (Int × Int)} (h : (List.range l.length).all (okRun s n l) = true) {i : Nat} {x p y q : Int} (hx : l[i]? = some (x, p)) (hy : l[i + 1]? = some (y, q)) : y < x := by
  have h0 := all_at h (List.getElem?_eq_some_iff.1 hy).1
  rw [okRun_at hy] at h0
  simp only [Nat.succ_ne_zero, if_false, Nat.add_sub_cancel, hx, Bool.and_eq_true, decide_eq_true_eq] at h0
  omega
theorem end_in {s : RS} (hg : GoodR s) {n : Nat} {l : List (Int × Int)} (h : (List.range l.length).all (okRun s n l) = true) {i : Nat} {x p : Int} (hx : l[i]? = some (x, p)) : s.short ≤ endR s l i ∧ endR s l i ≤ x := by
  have h1 := runs_in h i x p hx
  have := hg.s1
  unfold endR
  cases hy : l[i + 1]? with
  | none => simp only; omega
  | some r =>
    obtain ⟨y, q⟩ := r
    have h2 := runs_in h (i + 1) y q hy
    have h3 := runs_dec h hx hy
    simp only
    omega
theorem refEnd_c (s : RS) (hg : GoodR s) (l : List (Int × Int)) (hl : l.length ≤ 1000000) (i : Nat) (hi : i < l.length) (hb : ∀ x p, l[i + 1]? = some (x, p) → 0 ≤ x ∧ x ≤ 100000) : ACall Try.prog 58 [stoD s, runsD l, iD i] (iD (endR s l i)) := by
  have w1 : IntKind.i64.wrap ((i : Int) + 1) = (i : Int) + 1 := wrap64_in (by omega)
  have t1 : ((i : Int) + 1).toNat = i + 1 := by omega
  have t2 : (0 : Int) ≤ (i : Int) + 1 := by omega
  by_cases hlt : i + 1 < l.length
  · have hlti : (i : Int) + 1 < l.length := by omega
    obtain ⟨⟨x, p⟩, hx⟩ : ∃ r, l[i + 1]? = some r := ⟨_, List.getElem?_eq_getElem hlt⟩
    have he : endR s l i = x + 1 := by rw [endR, hx]
    have hb' := hb x p hx
    have w2 : IntKind.i64.wrap (x + 1) = x + 1 := wrap64_in (by omega)
    rw [he]
    refine acallK tabOk Try.func58 rfl rfl (show 3 ≤ _ by decide) rfl fun _ => ?_; simp only [Try.ntmps58]
    repeat (first | (with_reducible first | refine zq1 fun _ => ?_ | refine zq2 fun _ => ?_ | refine zq3 ?_) | ((first | refine zq4 ?_ | refine zq5 fun _ _ => ?_ | refine zq6 ?_); simp [-getElem?_pos, z0, z1, z2, w1, t1, t2, hlt, hlti, hx, w2]) | ((first | refine AWp.ret ?_ | refine AWp.skip ?_ | refine AWp.exit ?_); try simp only [thenP]) | (with_reducible refine zq7 ?_; simp only [blockP, thenP, reduceIte]) | with_reducible refine zq8 ?_)
    (first | refine RR.ret ?_ | refine RR.normal ?_); simp [z0]
  · have hlti : ¬ (i : Int) + 1 < l.length := by omega
    have he : endR s l i = s.short := by rw [endR, List.getElem?_eq_none (by omega)]
    rw [he]
    refine acallK tabOk Try.func58 rfl rfl (show 3 ≤ _ by decide) rfl fun _ => ?_; simp only [Try.ntmps58]
    repeat (first | (with_reducible first | refine zq1 fun _ => ?_ | refine zq2 fun _ => ?_ | refine zq3 ?_) | ((first | refine zq4 ?_ | refine zq5 fun _ _ => ?_ | refine zq6 ?_); simp [-getElem?_pos, z0, z1, z2, w1, t1, t2, hlt, hlti]) | ((first | refine AWp.ret ?_ | refine AWp.skip ?_ | refine AWp.exit ?_); try simp only [thenP]) | (with_reducible refine zq7 ?_; simp only [blockP, thenP, reduceIte]) | with_reducible refine zq8 ?_)
    (first | refine RR.ret ?_ | refine RR.normal ?_); simp [z0]
theorem refCheckPlan_c (s : RS) (ps : List Int) (hl : ps.length ≤ 1000000) (l : List (Int × Int)) (hll : l.length ≤ 1000000) : ACall Try.prog 27 [stoD s, intL ps, runsD l] (iD (cplE s ps l)) := by
  have cs := refCheckStone_c s ps hl
  obtain ⟨e, he⟩ : ∃ e, e = cplE s ps l := ⟨_, rfl⟩
  rw [← he]
  by_cases h0 : stoE s ps = 0
  · rw [h0] at cs
    have ok := stoE_ok.1 h0
    have hg := ok.g
    have g1 := hg.s1; have g2 := hg.s2; have g3 := hg.s3; have g4 := hg.o1; have g5 := hg.o2
    have n2 := ok.n2
    rw [cplE, if_pos h0] at he
    by_cases b1 : l.length < 1
    · have he' : e = 6 := by rw [he, if_pos (.inl b1)]
      have b0 : l = [] := List.length_eq_zero_iff.1 (by omega)
      subst b0
      refine acallK tabOk Try.func27 rfl rfl (show 3 ≤ _ by decide) rfl fun _ => ?_; simp only [Try.ntmps27]
      repeat (first | (with_reducible first | refine zq1 fun _ => ?_ | refine zq2 fun _ => ?_ | refine zq3 ?_) | ((first | refine zq4 ?_ | refine zq5 fun _ _ => ?_ | refine zq6 ?_); simp [-getElem?_pos, z0, z1, z2, z0]) | ((first | refine AWp.ret ?_ | refine AWp.skip ?_ | refine AWp.exit ?_); try simp only [thenP]) | (with_reducible refine zq7 ?_; simp only [blockP, thenP, reduceIte]) | with_reducible refine zq8 ?_)
      (first | refine Exec0.call [] cs ?_ rfl ?_ ?_ | refine Exec.call [] cs ?_ rfl ?_ ?_); (focus simp [-getElem?_pos, z0]); (focus simp [-getElem?_pos, z0, z1, z2, z0]); simp [-getElem?_pos, z0, z1, z2, z0]
      repeat (first | (with_reducible first | refine zq1 fun _ => ?_ | refine zq2 fun _ => ?_ | refine zq3 ?_) | ((first | refine zq4 ?_ | refine zq5 fun _ _ => ?_ | refine zq6 ?_); simp [-getElem?_pos, z0, z1, z2, runRows]) | ((first | refine AWp.ret ?_ | refine AWp.skip ?_ | refine AWp.exit ?_); try simp only [thenP]) | (with_reducible refine zq7 ?_; simp only [blockP, thenP, reduceIte]) | with_reducible refine zq8 ?_)
      (first | refine RR.ret ?_ | refine RR.normal ?_); simp [he']
    have b1i : ¬ (l.length : Int) < 1 := by omega
    have b0 : ¬ l = [] := fun h => by subst h; simp at b1
    by_cases b2 : 20 < l.length
    · have he' : e = 6 := by rw [he, if_pos (.inr b2)]
      have b2i : (20 : Int) < l.length := by omega
      refine acallK tabOk Try.func27 rfl rfl (show 3 ≤ _ by decide) rfl fun _ => ?_; simp only [Try.ntmps27]
      repeat (first | (with_reducible first | refine zq1 fun _ => ?_ | refine zq2 fun _ => ?_ | refine zq3 ?_) | ((first | refine zq4 ?_ | refine zq5 fun _ _ => ?_ | refine zq6 ?_); simp [-getElem?_pos, z0, z1, z2, z0]) | ((first | refine AWp.ret ?_ | refine AWp.skip ?_ | refine AWp.exit ?_); try simp only [thenP]) | (with_reducible refine zq7 ?_; simp only [blockP, thenP, reduceIte]) | with_reducible refine zq8 ?_)
      (first | refine Exec0.call [] cs ?_ rfl ?_ ?_ | refine Exec.call [] cs ?_ rfl ?_ ?_); (focus simp [-getElem?_pos, z0]); (focus simp [-getElem?_pos, z0, z1, z2, z0]); simp [-getElem?_pos, z0, z1, z2, z0]
      repeat (first | (with_reducible first | refine zq1 fun _ => ?_ | refine zq2 fun _ => ?_ | refine zq3 ?_) | ((first | refine zq4 ?_ | refine zq5 fun _ _ => ?_ | refine zq6 ?_); simp [-getElem?_pos, z0, z1, z2, b0, b1, b1i, b2, b2i]) | ((first | refine AWp.ret ?_ | refine AWp.skip ?_ | refine AWp.exit ?_); try simp only [thenP]) | (with_reducible refine zq7 ?_; simp only [blockP, thenP, reduceIte]) | with_reducible refine zq8 ?_)
      (first | refine RR.ret ?_ | refine RR.normal ?_); simp [he']
    have b2i : ¬ (20 : Int) < l.length := by omega
    rw [if_neg (by omega)] at he
    have hbad : ∀ i, i < l.length → okRun s ps.length l i = false → e = 3 := fun i hi h => by
      rw [he, all_no hi h, if_neg (by simp)]
    refine acallK tabOk Try.func27 rfl rfl (show 3 ≤ _ by decide) rfl fun _ => ?_; simp only [Try.ntmps27]
    repeat (first | (with_reducible first | refine zq1 fun _ => ?_ | refine zq2 fun _ => ?_ | refine zq3 ?_) | ((first | refine zq4 ?_ | refine zq5 fun _ _ => ?_ | refine zq6 ?_); simp [-getElem?_pos, z0, z1, z2, z0]) | ((first | refine AWp.ret ?_ | refine AWp.skip ?_ | refine AWp.exit ?_); try simp only [thenP]) | (with_reducible refine zq7 ?_; simp only [blockP, thenP, reduceIte]) | with_reducible refine zq8 ?_)
    (first | refine Exec0.call [] cs ?_ rfl ?_ ?_ | refine Exec.call [] cs ?_ rfl ?_ ?_); (focus simp [-getElem?_pos, z0]); (focus simp [-getElem?_pos, z0, z1, z2, z0]); simp [-getElem?_pos, z0, z1, z2, z0]
    repeat (first | (with_reducible first | refine zq1 fun _ => ?_ | refine zq2 fun _ => ?_ | refine zq3 ?_) | ((first | refine zq4 ?_ | refine zq5 fun _ _ => ?_ | refine zq6 ?_); simp [-getElem?_pos, z0, z1, z2, b0, b1, b1i, b2, b2i]) | ((first | refine AWp.ret ?_ | refine AWp.skip ?_ | refine AWp.exit ?_); try simp only [thenP]) | (with_reducible refine zq7 ?_; simp only [blockP, thenP, reduceIte]) | with_reducible refine zq8 ?_)
    refine AWp.loopK (ι := { i : Nat // i ≤ l.length ∧ (List.range i).all (okRun s ps.length l) = true }) (n := 1) (fun i => [(1, .d (intL ps)), (2, .d (runsD l)), (3, .ptr 0 0 0), (7, .d (iD i.1))]) (fun _ => [(0, .box 25 [.d (iD s.long), .d (iD s.short), .d (iD s.off), .d (iD s.lo), .d (iD s.hi)] false)]) (fun i => l.length - i.1) ⟨0, Nat.zero_le _, rfl⟩ [0] ?_ ?_
    · refine ⟨by rfl, by simp [z0], by simp [or_imp, forall_and, z0] <;> (try (intro _hne; simp [_hne])), by decide⟩
    rintro ⟨i, hi, hall⟩ kk
    have w1 : IntKind.i64.wrap ((i : Int) + 1) = (i : Int) + 1 := wrap64_in (by omega)
    by_cases hlt : i < l.length
    · have hii : (i : Int) < l.length := by omega
      obtain ⟨⟨x, p⟩, hx⟩ : ∃ r, l[i]? = some r := ⟨_, List.getElem?_eq_getElem hlt⟩
      have hok := okRun_at (s := s) (n := ps.length) hx
      have hbi := hbad i hlt
      cases i with
      | zero =>
        rw [if_pos rfl] at hok
        have w10 : IntKind.i64.wrap 1 = 1 := by decide
        by_cases c0 : ¬ x = s.long
        · have he' := hbi (by rw [hok, show decide (x = s.long) = false from decide_eq_false (by omega)]; simp)
          repeat (first | (with_reducible first | refine zq1 fun _ => ?_ | refine zq2 fun _ => ?_ | refine zq3 ?_) | ((first | refine zq4 ?_ | refine zq5 fun _ _ => ?_ | refine zq6 ?_); simp [-getElem?_pos, z0, z1, z2, hii, hlt, hx, w10, b1, b0, c0]) | ((first | refine AWp.ret ?_ | refine AWp.skip ?_ | refine AWp.exit ?_); try simp only [thenP]) | (with_reducible refine zq7 ?_; simp only [blockP, thenP, reduceIte]) | with_reducible refine zq8 ?_)
          (first | refine RR.ret ?_ | refine RR.normal ?_); simp [he']
        by_cases c2 : x < s.short
        · have he' := hbi (by rw [hok, show decide (s.short ≤ x) = false from decide_eq_false (by omega)]; simp)
          repeat (first | (with_reducible first | refine zq1 fun _ => ?_ | refine zq2 fun _ => ?_ | refine zq3 ?_) | ((first | refine zq4 ?_ | refine zq5 fun _ _ => ?_ | refine zq6 ?_); simp [-getElem?_pos, z0, z1, z2, hii, hlt, hx, w10, b1, b0, c0, c2]) | ((first | refine AWp.ret ?_ | refine AWp.skip ?_ | refine AWp.exit ?_); try simp only [thenP]) | (with_reducible refine zq7 ?_; simp only [blockP, thenP, reduceIte]) | with_reducible refine zq8 ?_)
          (first | refine RR.ret ?_ | refine RR.normal ?_); simp [he']
        by_cases c3 : p < 0
        · have he' := hbi (by rw [hok, show decide (0 ≤ p) = false from decide_eq_false (by omega)]; simp)
          repeat (first | (with_reducible first | refine zq1 fun _ => ?_ | refine zq2 fun _ => ?_ | refine zq3 ?_) | ((first | refine zq4 ?_ | refine zq5 fun _ _ => ?_ | refine zq6 ?_); simp [-getElem?_pos, z0, z1, z2, hii, hlt, hx, w10, b1, b0, c0, c2, c3]) | ((first | refine AWp.ret ?_ | refine AWp.skip ?_ | refine AWp.exit ?_); try simp only [thenP]) | (with_reducible refine zq7 ?_; simp only [blockP, thenP, reduceIte]) | with_reducible refine zq8 ?_)
          (first | refine RR.ret ?_ | refine RR.normal ?_); simp [he']
        by_cases c4 : (ps.length : Int) ≤ p
        · have he' := hbi (by rw [hok, show decide (p < (ps.length : Int)) = false from decide_eq_false (by omega)]; simp)
          repeat (first | (with_reducible first | refine zq1 fun _ => ?_ | refine zq2 fun _ => ?_ | refine zq3 ?_) | ((first | refine zq4 ?_ | refine zq5 fun _ _ => ?_ | refine zq6 ?_); simp [-getElem?_pos, z0, z1, z2, hii, hlt, hx, w10, b1, b0, c0, c2, c3, c4]) | ((first | refine AWp.ret ?_ | refine AWp.skip ?_ | refine AWp.exit ?_); try simp only [thenP]) | (with_reducible refine zq7 ?_; simp only [blockP, thenP, reduceIte]) | with_reducible refine zq8 ?_)
          (first | refine RR.ret ?_ | refine RR.normal ?_); simp [he']
        have hoki : okRun s ps.length l 0 = true := by
          rw [hok, decide_eq_true (show x = s.long by omega), decide_eq_true (show s.short ≤ x by omega), decide_eq_true (show 0 ≤ p by omega), decide_eq_true (show p < (ps.length : Int) by omega)]
          rfl
        repeat (first | (with_reducible first | refine zq1 fun _ => ?_ | refine zq2 fun _ => ?_ | refine zq3 ?_) | ((first | refine zq4 ?_ | refine zq5 fun _ _ => ?_ | refine zq6 ?_); simp [-getElem?_pos, z0, z1, z2, hii, hlt, hx, w10, b1, b0, c0, c2, c3, c4, w1]) | ((first | refine AWp.ret ?_ | refine AWp.skip ?_ | refine AWp.exit ?_); try simp only [thenP]) | (with_reducible refine zq7 ?_; simp only [blockP, thenP, reduceIte]) | with_reducible refine zq8 ?_)
        refine LL.go ⟨0 + 1, hlt, all_succ hall hoki⟩ [0] ⟨by rfl, by simp [], by simp [or_imp, forall_and, ] <;> (try (intro _hne; simp [_hne])), by decide⟩ ?_
        simp; omega
      | succ j =>
        obtain ⟨⟨y, py⟩, hy⟩ : ∃ r, l[j]? = some r := ⟨_, List.getElem?_eq_getElem (by omega)⟩
        rw [if_neg (Nat.succ_ne_zero j), Nat.add_sub_cancel, hy] at hok
        simp only at hok
        have w3 : IntKind.i64.wrap (j : Int) = (j : Int) := wrap64_in (by omega)
        have w5 : IntKind.i64.wrap ((j : Int) + 1 + 1) = (j : Int) + 1 + 1 := wrap64_in (by omega)
        have hq0 : (0 : Int) < (j : Int) + 1 := by omega
        have hqn : ¬ (j : Int) + 1 = 0 := by omega
        have hqi : (j : Int) + 1 < l.length := by omega
        have hqp : 0 ≤ (j : Int) + 1 := by omega
        have hqt : ((j : Int) + 1).toNat = j + 1 := by omega
        by_cases c0 : y ≤ x
        · have he' := hbi (by rw [hok, show decide (x < y) = false from decide_eq_false (by omega)]; simp)
          repeat (first | (with_reducible first | refine zq1 fun _ => ?_ | refine zq2 fun _ => ?_ | refine zq3 ?_) | ((first | refine zq4 ?_ | refine zq5 fun _ _ => ?_ | refine zq6 ?_); simp [-getElem?_pos, z0, z1, z2, hii, hlt, hx, hy, w3, w5, hq0, hqn, hqi, hqp, hqt, c0]) | ((first | refine AWp.ret ?_ | refine AWp.skip ?_ | refine AWp.exit ?_); try simp only [thenP]) | (with_reducible refine zq7 ?_; simp only [blockP, thenP, reduceIte]) | with_reducible refine zq8 ?_)
          (first | refine RR.ret ?_ | refine RR.normal ?_); simp [he']
        by_cases c2 : x < s.short
        · have he' := hbi (by rw [hok, show decide (s.short ≤ x) = false from decide_eq_false (by omega)]; simp)
          repeat (first | (with_reducible first | refine zq1 fun _ => ?_ | refine zq2 fun _ => ?_ | refine zq3 ?_) | ((first | refine zq4 ?_ | refine zq5 fun _ _ => ?_ | refine zq6 ?_); simp [-getElem?_pos, z0, z1, z2, hii, hlt, hx, hy, w3, w5, hq0, hqn, hqi, hqp, hqt, c0, c2]) | ((first | refine AWp.ret ?_ | refine AWp.skip ?_ | refine AWp.exit ?_); try simp only [thenP]) | (with_reducible refine zq7 ?_; simp only [blockP, thenP, reduceIte]) | with_reducible refine zq8 ?_)
          (first | refine RR.ret ?_ | refine RR.normal ?_); simp [he']
        by_cases c3 : p < 0
        · have he' := hbi (by rw [hok, show decide (0 ≤ p) = false from decide_eq_false (by omega)]; simp)
          repeat (first | (with_reducible first | refine zq1 fun _ => ?_ | refine zq2 fun _ => ?_ | refine zq3 ?_) | ((first | refine zq4 ?_ | refine zq5 fun _ _ => ?_ | refine zq6 ?_); simp [-getElem?_pos, z0, z1, z2, hii, hlt, hx, hy, w3, w5, hq0, hqn, hqi, hqp, hqt, c0, c2, c3]) | ((first | refine AWp.ret ?_ | refine AWp.skip ?_ | refine AWp.exit ?_); try simp only [thenP]) | (with_reducible refine zq7 ?_; simp only [blockP, thenP, reduceIte]) | with_reducible refine zq8 ?_)
          (first | refine RR.ret ?_ | refine RR.normal ?_); simp [he']
        by_cases c4 : (ps.length : Int) ≤ p
        · have he' := hbi (by rw [hok, show decide (p < (ps.length : Int)) = false from decide_eq_false (by omega)]; simp)
          repeat (first | (with_reducible first | refine zq1 fun _ => ?_ | refine zq2 fun _ => ?_ | refine zq3 ?_) | ((first | refine zq4 ?_ | refine zq5 fun _ _ => ?_ | refine zq6 ?_); simp [-getElem?_pos, z0, z1, z2, hii, hlt, hx, hy, w3, w5, hq0, hqn, hqi, hqp, hqt, c0, c2, c3, c4]) | ((first | refine AWp.ret ?_ | refine AWp.skip ?_ | refine AWp.exit ?_); try simp only [thenP]) | (with_reducible refine zq7 ?_; simp only [blockP, thenP, reduceIte]) | with_reducible refine zq8 ?_)
          (first | refine RR.ret ?_ | refine RR.normal ?_); simp [he']
        have hoki : okRun s ps.length l (j + 1) = true := by
          rw [hok, decide_eq_true (show x < y by omega), decide_eq_true (show s.short ≤ x by omega), decide_eq_true (show 0 ≤ p by omega), decide_eq_true (show p < (ps.length : Int) by omega)]
          rfl
        repeat (first | (with_reducible first | refine zq1 fun _ => ?_ | refine zq2 fun _ => ?_ | refine zq3 ?_) | ((first | refine zq4 ?_ | refine zq5 fun _ _ => ?_ | refine zq6 ?_); simp [-getElem?_pos, z0, z1, z2, hii, hlt, hx, hy, w3, w5, hq0, hqn, hqi, hqp, hqt, c0, c2, c3, c4, w1]) | ((first | refine AWp.ret ?_ | refine AWp.skip ?_ | refine AWp.exit ?_); try simp only [thenP]) | (with_reducible refine zq7 ?_; simp only [blockP, thenP, reduceIte]) | with_reducible refine zq8 ?_)
        refine LL.go ⟨j + 1 + 1, hlt, all_succ hall hoki⟩ [0] ⟨by rfl, by simp [], by simp [or_imp, forall_and, ] <;> (try (intro _hne; simp [_hne])), by decide⟩ ?_
        simp; omega
    · obtain rfl : i = l.length := by omega
      rw [if_pos hall] at he
      have hin := runs_in hall
      have hbad2 : ∀ i, i < l.length → rimOk s ps l i = false → e = 19 := fun i hi h => by
        rw [he, all_no hi h, if_neg (by simp)]
      repeat (first | (with_reducible first | refine zq1 fun _ => ?_ | refine zq2 fun _ => ?_ | refine zq3 ?_) | ((first | refine zq4 ?_ | refine zq5 fun _ _ => ?_ | refine zq6 ?_); simp [-getElem?_pos, z0, z1, z2, hlt]) | ((first | refine AWp.ret ?_ | refine AWp.skip ?_ | refine AWp.exit ?_); try simp only [thenP]) | (with_reducible refine zq7 ?_; simp only [blockP, thenP, reduceIte]) | with_reducible refine zq8 ?_)
      refine AWp.loopK (ι := { i : Nat // i ≤ l.length ∧ (List.range i).all (rimOk s ps l) = true }) (n := 1) (fun i => [(1, .d (intL ps)), (2, .d (runsD l)), (3, .ptr 0 0 0), (8, .d (iD i.1))]) (fun _ => [(0, .box 25 [.d (iD s.long), .d (iD s.short), .d (iD s.off), .d (iD s.lo), .d (iD s.hi)] false)]) (fun i => l.length - i.1) ⟨0, Nat.zero_le _, rfl⟩ [0] ?_ ?_
      · refine ⟨by rfl, by simp [z0], by simp [or_imp, forall_and, z0] <;> (try (intro _hne; simp [_hne])), by decide⟩
      rintro ⟨i, hi, hall2⟩ kk
      have w1 : IntKind.i64.wrap ((i : Int) + 1) = (i : Int) + 1 := wrap64_in (by omega)
      by_cases hlt : i < l.length
      · have hii : (i : Int) < l.length := by omega
        obtain ⟨⟨x, p⟩, hx⟩ : ∃ r, l[i]? = some r := ⟨_, List.getElem?_eq_getElem hlt⟩
        obtain ⟨q1, q2, q3, q4⟩ := hin i x p hx
        obtain ⟨P, rfl⟩ := Int.eq_ofNat_of_zero_le q3
        have hP : P < ps.length := by omega
        obtain ⟨t, ht⟩ : ∃ t, ps[P]? = some t := ⟨_, List.getElem?_eq_getElem hP⟩
        have hta : turnAt ps (P : Int) = t := by rw [turnAt, Int.toNat_natCast, List.getD_eq_getElem?_getD, ht]; rfl
        have hbi := hbad2 i hlt
        have hri : rimOk s ps l i = (okAt s t x && okAt s t (endR s l i)) := by rw [rimOk, hx]; simp only [hta]
        obtain ⟨e1, e2⟩ := end_in hg hall hx
        have ca := refIsAllowed_c s t x (ok.turn ht) (by omega) (by omega)
        have cb := refIsAllowed_c s t (endR s l i) (ok.turn ht) (by omega) (by omega)
        have cE := refEnd_c s hg l hll i hlt fun y py hy => by have := hin (i + 1) y py hy; omega
        generalize endR s l i = z at *
        cases ha : okAt s t x with
        | false =>
          rw [ha] at ca hri
          have he' := hbi hri
          repeat (first | (with_reducible first | refine zq1 fun _ => ?_ | refine zq2 fun _ => ?_ | refine zq3 ?_) | ((first | refine zq4 ?_ | refine zq5 fun _ _ => ?_ | refine zq6 ?_); simp [-getElem?_pos, z0, z1, z2, hii, hlt, hx, hP, q4, ht]) | ((first | refine AWp.ret ?_ | refine AWp.skip ?_ | refine AWp.exit ?_); try simp only [thenP]) | (with_reducible refine zq7 ?_; simp only [blockP, thenP, reduceIte]) | with_reducible refine zq8 ?_)
          (first | refine Exec0.call [] ca ?_ rfl ?_ ?_ | refine Exec.call [] ca ?_ rfl ?_ ?_); (focus simp [-getElem?_pos, hx]); (focus simp [-getElem?_pos, z0, z1, z2, hx]); simp [-getElem?_pos, z0, z1, z2, hx]
          repeat (first | (with_reducible first | refine zq1 fun _ => ?_ | refine zq2 fun _ => ?_ | refine zq3 ?_) | ((first | refine zq4 ?_ | refine zq5 fun _ _ => ?_ | refine zq6 ?_); simp [-getElem?_pos, z0, z1, z2, z0]) | ((first | refine AWp.ret ?_ | refine AWp.skip ?_ | refine AWp.exit ?_); try simp only [thenP]) | (with_reducible refine zq7 ?_; simp only [blockP, thenP, reduceIte]) | with_reducible refine zq8 ?_)
          (first | refine RR.ret ?_ | refine RR.normal ?_); simp [he']
        | true =>
          rw [ha, Bool.true_and] at hri
          rw [ha] at ca
          cases hb : okAt s t z with
          | false =>
            rw [hb] at cb hri
            have he' := hbi hri
            repeat (first | (with_reducible first | refine zq1 fun _ => ?_ | refine zq2 fun _ => ?_ | refine zq3 ?_) | ((first | refine zq4 ?_ | refine zq5 fun _ _ => ?_ | refine zq6 ?_); simp [-getElem?_pos, z0, z1, z2, hii, hlt, hx, hP, q4, ht]) | ((first | refine AWp.ret ?_ | refine AWp.skip ?_ | refine AWp.exit ?_); try simp only [thenP]) | (with_reducible refine zq7 ?_; simp only [blockP, thenP, reduceIte]) | with_reducible refine zq8 ?_)
            (first | refine Exec0.call [] ca ?_ rfl ?_ ?_ | refine Exec.call [] ca ?_ rfl ?_ ?_); (focus simp [-getElem?_pos, hx]); (focus simp [-getElem?_pos, z0, z1, z2, hx]); simp [-getElem?_pos, z0, z1, z2, hx]
            (first | refine Exec0.call [] cE ?_ rfl ?_ ?_ | refine Exec.call [] cE ?_ rfl ?_ ?_); (focus simp [-getElem?_pos, hx]); (focus simp [-getElem?_pos, z0, z1, z2, hx]); simp [-getElem?_pos, z0, z1, z2, hx]
            (first | refine Exec0.call [] cb ?_ rfl ?_ ?_ | refine Exec.call [] cb ?_ rfl ?_ ?_); (focus simp [-getElem?_pos, hx]); (focus simp [-getElem?_pos, z0, z1, z2, hx]); simp [-getElem?_pos, z0, z1, z2, hx]
            repeat (first | (with_reducible first | refine zq1 fun _ => ?_ | refine zq2 fun _ => ?_ | refine zq3 ?_) | ((first | refine zq4 ?_ | refine zq5 fun _ _ => ?_ | refine zq6 ?_); simp [-getElem?_pos, z0, z1, z2, z0]) | ((first | refine AWp.ret ?_ | refine AWp.skip ?_ | refine AWp.exit ?_); try simp only [thenP]) | (with_reducible refine zq7 ?_; simp only [blockP, thenP, reduceIte]) | with_reducible refine zq8 ?_)
            (first | refine RR.ret ?_ | refine RR.normal ?_); simp [he']
          | true =>
            rw [hb] at cb hri
            repeat (first | (with_reducible first | refine zq1 fun _ => ?_ | refine zq2 fun _ => ?_ | refine zq3 ?_) | ((first | refine zq4 ?_ | refine zq5 fun _ _ => ?_ | refine zq6 ?_); simp [-getElem?_pos, z0, z1, z2, hii, hlt, hx, hP, q4, ht]) | ((first | refine AWp.ret ?_ | refine AWp.skip ?_ | refine AWp.exit ?_); try simp only [thenP]) | (with_reducible refine zq7 ?_; simp only [blockP, thenP, reduceIte]) | with_reducible refine zq8 ?_)
            (first | refine Exec0.call [] ca ?_ rfl ?_ ?_ | refine Exec.call [] ca ?_ rfl ?_ ?_); (focus simp [-getElem?_pos, hx]); (focus simp [-getElem?_pos, z0, z1, z2, hx]); simp [-getElem?_pos, z0, z1, z2, hx]
            (first | refine Exec0.call [] cE ?_ rfl ?_ ?_ | refine Exec.call [] cE ?_ rfl ?_ ?_); (focus simp [-getElem?_pos, hx]); (focus simp [-getElem?_pos, z0, z1, z2, hx]); simp [-getElem?_pos, z0, z1, z2, hx]
            (first | refine Exec0.call [] cb ?_ rfl ?_ ?_ | refine Exec.call [] cb ?_ rfl ?_ ?_); (focus simp [-getElem?_pos, hx]); (focus simp [-getElem?_pos, z0, z1, z2, hx]); simp [-getElem?_pos, z0, z1, z2, hx]
            repeat (first | (with_reducible first | refine zq1 fun _ => ?_ | refine zq2 fun _ => ?_ | refine zq3 ?_) | ((first | refine zq4 ?_ | refine zq5 fun _ _ => ?_ | refine zq6 ?_); simp [-getElem?_pos, z0, z1, z2, w1]) | ((first | refine AWp.ret ?_ | refine AWp.skip ?_ | refine AWp.exit ?_); try simp only [thenP]) | (with_reducible refine zq7 ?_; simp only [blockP, thenP, reduceIte]) | with_reducible refine zq8 ?_)
            refine LL.go ⟨i + 1, hlt, all_succ hall2 hri⟩ [0] ⟨by rfl, by simp [], by simp [or_imp, forall_and, ] <;> (try (intro _hne; simp [_hne])), by decide⟩ ?_
            simp; omega
      · obtain rfl : i = l.length := by omega
        have he' : e = 0 := by rw [he, if_pos hall2]
        repeat (first | (with_reducible first | refine zq1 fun _ => ?_ | refine zq2 fun _ => ?_ | refine zq3 ?_) | ((first | refine zq4 ?_ | refine zq5 fun _ _ => ?_ | refine zq6 ?_); simp [-getElem?_pos, z0, z1, z2, hlt]) | ((first | refine AWp.ret ?_ | refine AWp.skip ?_ | refine AWp.exit ?_); try simp only [thenP]) | (with_reducible refine zq7 ?_; simp only [blockP, thenP, reduceIte]) | with_reducible refine zq8 ?_)
        (first | refine RR.ret ?_ | refine RR.normal ?_); simp [he']
  · have he' : e = stoE s ps := by rw [he, cplE, if_neg h0]
    refine acallK tabOk Try.func27 rfl rfl (show 3 ≤ _ by decide) rfl fun _ => ?_; simp only [Try.ntmps27]
    repeat (first | (with_reducible first | refine zq1 fun _ => ?_ | refine zq2 fun _ => ?_ | refine zq3 ?_) | ((first | refine zq4 ?_ | refine zq5 fun _ _ => ?_ | refine zq6 ?_); simp [-getElem?_pos, z0, z1, z2, z0]) | ((first | refine AWp.ret ?_ | refine AWp.skip ?_ | refine AWp.exit ?_); try simp only [thenP]) | (with_reducible refine zq7 ?_; simp only [blockP, thenP, reduceIte]) | with_reducible refine zq8 ?_)
    (first | refine Exec0.call [] cs ?_ rfl ?_ ?_ | refine Exec.call [] cs ?_ rfl ?_ ?_); (focus simp [-getElem?_pos, h0]); (focus simp [-getElem?_pos, z0, z1, z2, h0]); simp [-getElem?_pos, z0, z1, z2, h0]
    repeat (first | (with_reducible first | refine zq1 fun _ => ?_ | refine zq2 fun _ => ?_ | refine zq3 ?_) | ((first | refine zq4 ?_ | refine zq5 fun _ _ => ?_ | refine zq6 ?_); simp [-getElem?_pos, z0, z1, z2, h0]) | ((first | refine AWp.ret ?_ | refine AWp.skip ?_ | refine AWp.exit ?_); try simp only [thenP]) | (with_reducible refine zq7 ?_; simp only [blockP, thenP, reduceIte]) | with_reducible refine zq8 ?_)
    (first | refine Exec0.call [] cs ?_ rfl ?_ ?_ | refine Exec.call [] cs ?_ rfl ?_ ?_); (focus simp [-getElem?_pos, h0]); (focus simp [-getElem?_pos, z0, z1, z2, h0]); simp [-getElem?_pos, z0, z1, z2, h0]
    repeat (first | (with_reducible first | refine zq1 fun _ => ?_ | refine zq2 fun _ => ?_ | refine zq3 ?_) | ((first | refine zq4 ?_ | refine zq5 fun _ _ => ?_ | refine zq6 ?_); simp [-getElem?_pos, z0, z1, z2, h0]) | ((first | refine AWp.ret ?_ | refine AWp.skip ?_ | refine AWp.exit ?_); try simp only [thenP]) | (with_reducible refine zq7 ?_; simp only [blockP, thenP, reduceIte]) | with_reducible refine zq8 ?_)
    (first | refine RR.ret ?_ | refine RR.normal ?_); simp [he']
end Go.Proofs.Ytdkneonokbakjaa.Eng
