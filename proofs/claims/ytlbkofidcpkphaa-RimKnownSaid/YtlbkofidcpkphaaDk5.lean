/-
  A part of the texts that the claim builds on: see the last one.
-/
import Derived.Test.YtlbkofidcpkphaaDk4
import Derived.Test.YtlbkofidcpkphaaProg
set_option linter.unusedSimpArgs false
set_option linter.unusedVariables false
/-
  The types of this seat as a table, each entry held against the program.
-/
namespace Go.Proofs.Ytlbkofidcpkphaa.Eng
open Go.RowKit

theorem info1 : (Try.prog.info? 1).map (fun i => (i.zero, i.size, i.bytes)) = some (some (.nilFunc), 1, 8) := by kernel_rfl
theorem ti1 : TiOk Try.prog 1 { size := 1, bytes := 8, zero := [.nilFunc], kind := .cell } := tiOk_mk info1 rfl rfl rfl (by decide) (⟨_, Try.underlying1, fun _ h => TypeDesc.noConfusion h, fun _ _ h => TypeDesc.noConfusion h⟩) (by decide) (fun h => absurd rfl h)
theorem info2 : (Try.prog.info? 2).map (fun i => (i.zero, i.size, i.bytes)) = some (some (.int .i64 0), 1, 8) := by kernel_rfl
theorem ti2 : TiOk Try.prog 2 { size := 1, bytes := 8, zero := [.int .i64 0], kind := .int .i64 } := tiOk_mk info2 rfl rfl rfl (by decide) (Try.underlying2) (by decide) (fun h => absurd rfl h)
theorem info3 : (Try.prog.info? 3).map (fun i => (i.zero, i.size, i.bytes)) = some (some (.int .i64 0), 1, 8) := by kernel_rfl
theorem ti3 : TiOk Try.prog 3 { size := 1, bytes := 8, zero := [.int .i64 0], kind := .int .i64 } := tiOk_mk info3 rfl rfl rfl (by decide) (Try.underlying3) (by decide) (fun h => absurd rfl h)
theorem info4 : (Try.prog.info? 4).map (fun i => (i.zero, i.size, i.bytes)) = some (some (.bool false), 1, 1) := by kernel_rfl
theorem ti4 : TiOk Try.prog 4 { size := 1, bytes := 1, zero := [.bool false], kind := .bool } := tiOk_mk info4 rfl rfl rfl (by decide) (Try.underlying4) (by decide) (fun h => absurd rfl h)
theorem info5 : (Try.prog.info? 5).map (fun i => (i.zero, i.size, i.bytes)) = some (some (.int .u8 0), 1, 1) := by kernel_rfl
theorem ti5 : TiOk Try.prog 5 { size := 1, bytes := 1, zero := [.int .u8 0], kind := .int .u8 } := tiOk_mk info5 rfl rfl rfl (by decide) (Try.underlying5) (by decide) (fun h => absurd rfl h)
theorem info6 : (Try.prog.info? 6).map (fun i => (i.zero, i.size, i.bytes)) = some (some (.int .u8 0), 1, 1) := by kernel_rfl
theorem ti6 : TiOk Try.prog 6 { size := 1, bytes := 1, zero := [.int .u8 0], kind := .int .u8 } := tiOk_mk info6 rfl rfl rfl (by decide) (Try.underlying6) (by decide) (fun h => absurd rfl h)
theorem info7 : (Try.prog.info? 7).map (fun i => (i.zero, i.size, i.bytes)) = some (some (.agg #[.int .i64 0, .int .i64 0, .bool false, .int .u8 0]), 4, 24) := by kernel_rfl
theorem ti7 : TiOk Try.prog 7 { size := 4, bytes := 24, zero := [.int .i64 0, .int .i64 0, .bool false, .int .u8 0], kind := .struct [(0, 2), (1, 3), (2, 4), (3, 6)] } := tiOk_mk info7 rfl rfl rfl (by decide) (⟨_, Try.underlying7, rfl⟩) (by decide) (fun h => absurd rfl h)
theorem info8 : (Try.prog.info? 8).map (fun i => (i.zero, i.size, i.bytes)) = some (some (.agg #[.int .i64 0, .int .i64 0, .bool false, .int .u8 0]), 4, 24) := by kernel_rfl
theorem ti8 : TiOk Try.prog 8 { size := 4, bytes := 24, zero := [.int .i64 0, .int .i64 0, .bool false, .int .u8 0], kind := .struct [(0, 2), (1, 3), (2, 4), (3, 6)] } := tiOk_mk info8 rfl rfl rfl (by decide) (⟨_, Try.underlying8, rfl⟩) (by decide) (fun h => absurd rfl h)
theorem info12 : (Try.prog.info? 12).map (fun i => (i.zero, i.size, i.bytes)) = some (some (.int .u64 0), 1, 8) := by kernel_rfl
theorem ti12 : TiOk Try.prog 12 { size := 1, bytes := 8, zero := [.int .u64 0], kind := .int .u64 } := tiOk_mk info12 rfl rfl rfl (by decide) (Try.underlying12) (by decide) (fun h => absurd rfl h)
theorem info15 : (Try.prog.info? 15).map (fun i => (i.zero, i.size, i.bytes)) = some (some (.pointer none), 1, 8) := by kernel_rfl
theorem ti15 : TiOk Try.prog 15 { size := 1, bytes := 8, zero := [.pointer none], kind := .cell } := tiOk_mk info15 rfl rfl rfl (by decide) (⟨_, Try.underlying15, fun _ h => TypeDesc.noConfusion h, fun _ _ h => TypeDesc.noConfusion h⟩) (by decide) (fun h => absurd rfl h)
theorem info16 : (Try.prog.info? 16).map (fun i => (i.zero, i.size, i.bytes)) = some (some (.pointer none), 1, 8) := by kernel_rfl
theorem ti16 : TiOk Try.prog 16 { size := 1, bytes := 8, zero := [.pointer none], kind := .cell } := tiOk_mk info16 rfl rfl rfl (by decide) (⟨_, Try.underlying16, fun _ h => TypeDesc.noConfusion h, fun _ _ h => TypeDesc.noConfusion h⟩) (by decide) (fun h => absurd rfl h)
theorem info17 : (Try.prog.info? 17).map (fun i => (i.zero, i.size, i.bytes)) = some (some (.pointer none), 1, 8) := by kernel_rfl
theorem ti17 : TiOk Try.prog 17 { size := 1, bytes := 8, zero := [.pointer none], kind := .cell } := tiOk_mk info17 rfl rfl rfl (by decide) (⟨_, Try.underlying17, fun _ h => TypeDesc.noConfusion h, fun _ _ h => TypeDesc.noConfusion h⟩) (by decide) (fun h => absurd rfl h)
theorem info18 : (Try.prog.info? 18).map (fun i => (i.zero, i.size, i.bytes)) = some (some (.agg #[.pointer none]), 1, 8) := by kernel_rfl
theorem ti18 : TiOk Try.prog 18 { size := 1, bytes := 8, zero := [.pointer none], kind := .struct [(0, 17)] } := tiOk_mk info18 rfl rfl rfl (by decide) (⟨_, Try.underlying18, rfl⟩) (by decide) (fun h => absurd rfl h)
theorem info19 : (Try.prog.info? 19).map (fun i => (i.zero, i.size, i.bytes)) = some (some (.agg #[.pointer none]), 1, 8) := by kernel_rfl
theorem ti19 : TiOk Try.prog 19 { size := 1, bytes := 8, zero := [.pointer none], kind := .struct [(0, 17)] } := tiOk_mk info19 rfl rfl rfl (by decide) (⟨_, Try.underlying19, rfl⟩) (by decide) (fun h => absurd rfl h)
theorem info21 : (Try.prog.info? 21).map (fun i => (i.zero, i.size, i.bytes)) = some (some (.int .i32 0), 1, 4) := by kernel_rfl
theorem ti21 : TiOk Try.prog 21 { size := 1, bytes := 4, zero := [.int .i32 0], kind := .int .i32 } := tiOk_mk info21 rfl rfl rfl (by decide) (Try.underlying21) (by decide) (fun h => absurd rfl h)
theorem info22 : (Try.prog.info? 22).map (fun i => (i.zero, i.size, i.bytes)) = some (some (.agg #[.int .i64 0, .int .i64 0]), 2, 16) := by kernel_rfl
theorem eqs22 (w : World) (x y : Operand) (m n : List Int) (hm : m.length = 2) (hn : n.length = 2) :
    (do eqGuard .eql 22 x y (aggInts [.i64, .i64] m) (aggInts [.i64, .i64] n); binOp .eql 22 (aggInts [.i64, .i64] m) (aggInts [.i64, .i64] n) : Sem Value).run Try.prog w = .ok (.bool (decide (m = n))) w ∧
    (do eqGuard .neq 22 x y (aggInts [.i64, .i64] m) (aggInts [.i64, .i64] n); binOp .neq 22 (aggInts [.i64, .i64] m) (aggInts [.i64, .i64] n) : Sem Value).run Try.prog w = .ok (.bool (decide (m ≠ n))) w := by
  exact eqs_by_2 w x y hm hn (by kernel_rfl) (by kernel_rfl) Try.underlying22 Try.underlying2 Try.underlying2 (by decide)
theorem ti22 : TiOk Try.prog 22 { size := 2, bytes := 16, zero := [.int .i64 0, .int .i64 0], kind := .struct [(0, 2), (1, 2)], eqk := [.i64, .i64] } := tiOk_mk info22 rfl rfl rfl (by decide) (⟨_, Try.underlying22, rfl⟩) (by decide) (fun _ => eqs22)
theorem info23 : (Try.prog.info? 23).map (fun i => (i.zero, i.size, i.bytes)) = some (some (.agg #[.int .i64 0, .int .i64 0]), 2, 16) := by kernel_rfl
theorem eqs23 (w : World) (x y : Operand) (m n : List Int) (hm : m.length = 2) (hn : n.length = 2) :
    (do eqGuard .eql 23 x y (aggInts [.i64, .i64] m) (aggInts [.i64, .i64] n); binOp .eql 23 (aggInts [.i64, .i64] m) (aggInts [.i64, .i64] n) : Sem Value).run Try.prog w = .ok (.bool (decide (m = n))) w ∧
    (do eqGuard .neq 23 x y (aggInts [.i64, .i64] m) (aggInts [.i64, .i64] n); binOp .neq 23 (aggInts [.i64, .i64] m) (aggInts [.i64, .i64] n) : Sem Value).run Try.prog w = .ok (.bool (decide (m ≠ n))) w := by
  exact eqs_by_2 w x y hm hn (by kernel_rfl) (by kernel_rfl) Try.underlying23 Try.underlying2 Try.underlying2 (by decide)
theorem ti23 : TiOk Try.prog 23 { size := 2, bytes := 16, zero := [.int .i64 0, .int .i64 0], kind := .struct [(0, 2), (1, 2)], eqk := [.i64, .i64] } := tiOk_mk info23 rfl rfl rfl (by decide) (⟨_, Try.underlying23, rfl⟩) (by decide) (fun _ => eqs23)
theorem info24 : (Try.prog.info? 24).map (fun i => (i.zero, i.size, i.bytes)) = some (some (.agg #[.int .i64 0, .int .i64 0, .int .i64 0, .int .i64 0, .int .i64 0]), 5, 40) := by kernel_rfl
theorem ti24 : TiOk Try.prog 24 { size := 5, bytes := 40, zero := [.int .i64 0, .int .i64 0, .int .i64 0, .int .i64 0, .int .i64 0], kind := .struct [(0, 2), (1, 2), (2, 2), (3, 23)] } := tiOk_mk info24 rfl rfl rfl (by decide) (⟨_, Try.underlying24, rfl⟩) (by decide) (fun h => absurd rfl h)
theorem info25 : (Try.prog.info? 25).map (fun i => (i.zero, i.size, i.bytes)) = some (some (.agg #[.int .i64 0, .int .i64 0, .int .i64 0, .int .i64 0, .int .i64 0]), 5, 40) := by kernel_rfl
theorem ti25 : TiOk Try.prog 25 { size := 5, bytes := 40, zero := [.int .i64 0, .int .i64 0, .int .i64 0, .int .i64 0, .int .i64 0], kind := .struct [(0, 2), (1, 2), (2, 2), (3, 23)] } := tiOk_mk info25 rfl rfl rfl (by decide) (⟨_, Try.underlying25, rfl⟩) (by decide) (fun h => absurd rfl h)
theorem info26 : (Try.prog.info? 26).map (fun i => (i.zero, i.size, i.bytes)) = some (some (.slice none 0 0), 1, 24) := by kernel_rfl
theorem ti26 : TiOk Try.prog 26 { size := 1, bytes := 24, zero := [.slice none 0 0], kind := .slice 2 } := tiOk_mk info26 rfl rfl rfl (by decide) (Try.underlying26) (by decide) (fun h => absurd rfl h)
theorem info27 : (Try.prog.info? 27).map (fun i => (i.zero, i.size, i.bytes)) = some (some (.nilFunc), 1, 8) := by kernel_rfl
theorem ti27 : TiOk Try.prog 27 { size := 1, bytes := 8, zero := [.nilFunc], kind := .cell } := tiOk_mk info27 rfl rfl rfl (by decide) (⟨_, Try.underlying27, fun _ h => TypeDesc.noConfusion h, fun _ _ h => TypeDesc.noConfusion h⟩) (by decide) (fun h => absurd rfl h)
theorem info28 : (Try.prog.info? 28).map (fun i => (i.zero, i.size, i.bytes)) = some (some (.nilFunc), 1, 8) := by kernel_rfl
theorem ti28 : TiOk Try.prog 28 { size := 1, bytes := 8, zero := [.nilFunc], kind := .cell } := tiOk_mk info28 rfl rfl rfl (by decide) (⟨_, Try.underlying28, fun _ h => TypeDesc.noConfusion h, fun _ _ h => TypeDesc.noConfusion h⟩) (by decide) (fun h => absurd rfl h)
theorem info29 : (Try.prog.info? 29).map (fun i => (i.zero, i.size, i.bytes)) = some (some (.int .i64 0), 1, 8) := by kernel_rfl
theorem ti29 : TiOk Try.prog 29 { size := 1, bytes := 8, zero := [.int .i64 0], kind := .int .i64 } := tiOk_mk info29 rfl rfl rfl (by decide) (Try.underlying29) (by decide) (fun h => absurd rfl h)
theorem info31 : (Try.prog.info? 31).map (fun i => (i.zero, i.size, i.bytes)) = some (some (.nilFunc), 1, 8) := by kernel_rfl
theorem ti31 : TiOk Try.prog 31 { size := 1, bytes := 8, zero := [.nilFunc], kind := .cell } := tiOk_mk info31 rfl rfl rfl (by decide) (⟨_, Try.underlying31, fun _ h => TypeDesc.noConfusion h, fun _ _ h => TypeDesc.noConfusion h⟩) (by decide) (fun h => absurd rfl h)
theorem info33 : (Try.prog.info? 33).map (fun i => (i.zero, i.size, i.bytes)) = some (some (.nilFunc), 1, 8) := by kernel_rfl
theorem ti33 : TiOk Try.prog 33 { size := 1, bytes := 8, zero := [.nilFunc], kind := .cell } := tiOk_mk info33 rfl rfl rfl (by decide) (⟨_, Try.underlying33, fun _ h => TypeDesc.noConfusion h, fun _ _ h => TypeDesc.noConfusion h⟩) (by decide) (fun h => absurd rfl h)
theorem info34 : (Try.prog.info? 34).map (fun i => (i.zero, i.size, i.bytes)) = some (some (.nilFunc), 1, 8) := by kernel_rfl
theorem ti34 : TiOk Try.prog 34 { size := 1, bytes := 8, zero := [.nilFunc], kind := .cell } := tiOk_mk info34 rfl rfl rfl (by decide) (⟨_, Try.underlying34, fun _ h => TypeDesc.noConfusion h, fun _ _ h => TypeDesc.noConfusion h⟩) (by decide) (fun h => absurd rfl h)
theorem info35 : (Try.prog.info? 35).map (fun i => (i.zero, i.size, i.bytes)) = some (some (.nilFunc), 1, 8) := by kernel_rfl
theorem ti35 : TiOk Try.prog 35 { size := 1, bytes := 8, zero := [.nilFunc], kind := .cell } := tiOk_mk info35 rfl rfl rfl (by decide) (⟨_, Try.underlying35, fun _ h => TypeDesc.noConfusion h, fun _ _ h => TypeDesc.noConfusion h⟩) (by decide) (fun h => absurd rfl h)
theorem info36 : (Try.prog.info? 36).map (fun i => (i.zero, i.size, i.bytes)) = some (some (.slice none 0 0), 1, 24) := by kernel_rfl
theorem ti36 : TiOk Try.prog 36 { size := 1, bytes := 24, zero := [.slice none 0 0], kind := .slice 59 } := tiOk_mk info36 rfl rfl rfl (by decide) (Try.underlying36) (by decide) (fun h => absurd rfl h)
theorem info37 : (Try.prog.info? 37).map (fun i => (i.zero, i.size, i.bytes)) = some (some (.nilFunc), 1, 8) := by kernel_rfl
theorem ti37 : TiOk Try.prog 37 { size := 1, bytes := 8, zero := [.nilFunc], kind := .cell } := tiOk_mk info37 rfl rfl rfl (by decide) (⟨_, Try.underlying37, fun _ h => TypeDesc.noConfusion h, fun _ _ h => TypeDesc.noConfusion h⟩) (by decide) (fun h => absurd rfl h)
theorem info38 : (Try.prog.info? 38).map (fun i => (i.zero, i.size, i.bytes)) = some (some (.nilFunc), 1, 8) := by kernel_rfl
theorem ti38 : TiOk Try.prog 38 { size := 1, bytes := 8, zero := [.nilFunc], kind := .cell } := tiOk_mk info38 rfl rfl rfl (by decide) (⟨_, Try.underlying38, fun _ h => TypeDesc.noConfusion h, fun _ _ h => TypeDesc.noConfusion h⟩) (by decide) (fun h => absurd rfl h)
theorem info39 : (Try.prog.info? 39).map (fun i => (i.zero, i.size, i.bytes)) = some (some (.nilFunc), 1, 8) := by kernel_rfl
theorem ti39 : TiOk Try.prog 39 { size := 1, bytes := 8, zero := [.nilFunc], kind := .cell } := tiOk_mk info39 rfl rfl rfl (by decide) (⟨_, Try.underlying39, fun _ h => TypeDesc.noConfusion h, fun _ _ h => TypeDesc.noConfusion h⟩) (by decide) (fun h => absurd rfl h)
theorem info41 : (Try.prog.info? 41).map (fun i => (i.zero, i.size, i.bytes)) = some (some (.nilFunc), 1, 8) := by kernel_rfl
theorem ti41 : TiOk Try.prog 41 { size := 1, bytes := 8, zero := [.nilFunc], kind := .cell } := tiOk_mk info41 rfl rfl rfl (by decide) (⟨_, Try.underlying41, fun _ h => TypeDesc.noConfusion h, fun _ _ h => TypeDesc.noConfusion h⟩) (by decide) (fun h => absurd rfl h)
theorem info43 : (Try.prog.info? 43).map (fun i => (i.zero, i.size, i.bytes)) = some (some (.nilFunc), 1, 8) := by kernel_rfl
theorem ti43 : TiOk Try.prog 43 { size := 1, bytes := 8, zero := [.nilFunc], kind := .cell } := tiOk_mk info43 rfl rfl rfl (by decide) (⟨_, Try.underlying43, fun _ h => TypeDesc.noConfusion h, fun _ _ h => TypeDesc.noConfusion h⟩) (by decide) (fun h => absurd rfl h)
theorem info44 : (Try.prog.info? 44).map (fun i => (i.zero, i.size, i.bytes)) = some (some (.nilFunc), 1, 8) := by kernel_rfl
theorem ti44 : TiOk Try.prog 44 { size := 1, bytes := 8, zero := [.nilFunc], kind := .cell } := tiOk_mk info44 rfl rfl rfl (by decide) (⟨_, Try.underlying44, fun _ h => TypeDesc.noConfusion h, fun _ _ h => TypeDesc.noConfusion h⟩) (by decide) (fun h => absurd rfl h)
theorem info45 : (Try.prog.info? 45).map (fun i => (i.zero, i.size, i.bytes)) = some (some (.nilFunc), 1, 8) := by kernel_rfl
theorem ti45 : TiOk Try.prog 45 { size := 1, bytes := 8, zero := [.nilFunc], kind := .cell } := tiOk_mk info45 rfl rfl rfl (by decide) (⟨_, Try.underlying45, fun _ h => TypeDesc.noConfusion h, fun _ _ h => TypeDesc.noConfusion h⟩) (by decide) (fun h => absurd rfl h)
theorem info46 : (Try.prog.info? 46).map (fun i => (i.zero, i.size, i.bytes)) = some (some (.nilFunc), 1, 8) := by kernel_rfl
theorem ti46 : TiOk Try.prog 46 { size := 1, bytes := 8, zero := [.nilFunc], kind := .cell } := tiOk_mk info46 rfl rfl rfl (by decide) (⟨_, Try.underlying46, fun _ h => TypeDesc.noConfusion h, fun _ _ h => TypeDesc.noConfusion h⟩) (by decide) (fun h => absurd rfl h)
theorem info47 : (Try.prog.info? 47).map (fun i => (i.zero, i.size, i.bytes)) = some (some (.nilFunc), 1, 8) := by kernel_rfl
theorem ti47 : TiOk Try.prog 47 { size := 1, bytes := 8, zero := [.nilFunc], kind := .cell } := tiOk_mk info47 rfl rfl rfl (by decide) (⟨_, Try.underlying47, fun _ h => TypeDesc.noConfusion h, fun _ _ h => TypeDesc.noConfusion h⟩) (by decide) (fun h => absurd rfl h)
theorem info48 : (Try.prog.info? 48).map (fun i => (i.zero, i.size, i.bytes)) = some (some (.nilFunc), 1, 8) := by kernel_rfl
theorem ti48 : TiOk Try.prog 48 { size := 1, bytes := 8, zero := [.nilFunc], kind := .cell } := tiOk_mk info48 rfl rfl rfl (by decide) (⟨_, Try.underlying48, fun _ h => TypeDesc.noConfusion h, fun _ _ h => TypeDesc.noConfusion h⟩) (by decide) (fun h => absurd rfl h)
theorem info49 : (Try.prog.info? 49).map (fun i => (i.zero, i.size, i.bytes)) = some (some (.slice none 0 0), 1, 24) := by kernel_rfl
theorem ti49 : TiOk Try.prog 49 { size := 1, bytes := 24, zero := [.slice none 0 0], kind := .slice 3 } := tiOk_mk info49 rfl rfl rfl (by decide) (Try.underlying49) (by decide) (fun h => absurd rfl h)
theorem info51 : (Try.prog.info? 51).map (fun i => (i.zero, i.size, i.bytes)) = some (some (.nilFunc), 1, 8) := by kernel_rfl
theorem ti51 : TiOk Try.prog 51 { size := 1, bytes := 8, zero := [.nilFunc], kind := .cell } := tiOk_mk info51 rfl rfl rfl (by decide) (⟨_, Try.underlying51, fun _ h => TypeDesc.noConfusion h, fun _ _ h => TypeDesc.noConfusion h⟩) (by decide) (fun h => absurd rfl h)
theorem info52 : (Try.prog.info? 52).map (fun i => (i.zero, i.size, i.bytes)) = some (some (.nilFunc), 1, 8) := by kernel_rfl
theorem ti52 : TiOk Try.prog 52 { size := 1, bytes := 8, zero := [.nilFunc], kind := .cell } := tiOk_mk info52 rfl rfl rfl (by decide) (⟨_, Try.underlying52, fun _ h => TypeDesc.noConfusion h, fun _ _ h => TypeDesc.noConfusion h⟩) (by decide) (fun h => absurd rfl h)
theorem info53 : (Try.prog.info? 53).map (fun i => (i.zero, i.size, i.bytes)) = some (some (.nilFunc), 1, 8) := by kernel_rfl
theorem ti53 : TiOk Try.prog 53 { size := 1, bytes := 8, zero := [.nilFunc], kind := .cell } := tiOk_mk info53 rfl rfl rfl (by decide) (⟨_, Try.underlying53, fun _ h => TypeDesc.noConfusion h, fun _ _ h => TypeDesc.noConfusion h⟩) (by decide) (fun h => absurd rfl h)
theorem info54 : (Try.prog.info? 54).map (fun i => (i.zero, i.size, i.bytes)) = some (some (.int .u32 0), 1, 4) := by kernel_rfl
theorem ti54 : TiOk Try.prog 54 { size := 1, bytes := 4, zero := [.int .u32 0], kind := .int .u32 } := tiOk_mk info54 rfl rfl rfl (by decide) (Try.underlying54) (by decide) (fun h => absurd rfl h)
theorem info55 : (Try.prog.info? 55).map (fun i => (i.zero, i.size, i.bytes)) = some (some (.slice none 0 0), 1, 24) := by kernel_rfl
theorem ti55 : TiOk Try.prog 55 { size := 1, bytes := 24, zero := [.slice none 0 0], kind := .slice 36 } := tiOk_mk info55 rfl rfl rfl (by decide) (Try.underlying55) (by decide) (fun h => absurd rfl h)
theorem info56 : (Try.prog.info? 56).map (fun i => (i.zero, i.size, i.bytes)) = some (some (.nilFunc), 1, 8) := by kernel_rfl
theorem ti56 : TiOk Try.prog 56 { size := 1, bytes := 8, zero := [.nilFunc], kind := .cell } := tiOk_mk info56 rfl rfl rfl (by decide) (⟨_, Try.underlying56, fun _ h => TypeDesc.noConfusion h, fun _ _ h => TypeDesc.noConfusion h⟩) (by decide) (fun h => absurd rfl h)
theorem info57 : (Try.prog.info? 57).map (fun i => (i.zero, i.size, i.bytes)) = some (some (.nilFunc), 1, 8) := by kernel_rfl
theorem ti57 : TiOk Try.prog 57 { size := 1, bytes := 8, zero := [.nilFunc], kind := .cell } := tiOk_mk info57 rfl rfl rfl (by decide) (⟨_, Try.underlying57, fun _ h => TypeDesc.noConfusion h, fun _ _ h => TypeDesc.noConfusion h⟩) (by decide) (fun h => absurd rfl h)
theorem info58 : (Try.prog.info? 58).map (fun i => (i.zero, i.size, i.bytes)) = some (some (.agg #[.int .i64 0, .int .i64 0]), 2, 16) := by kernel_rfl
theorem eqs58 (w : World) (x y : Operand) (m n : List Int) (hm : m.length = 2) (hn : n.length = 2) :
    (do eqGuard .eql 58 x y (aggInts [.i64, .i64] m) (aggInts [.i64, .i64] n); binOp .eql 58 (aggInts [.i64, .i64] m) (aggInts [.i64, .i64] n) : Sem Value).run Try.prog w = .ok (.bool (decide (m = n))) w ∧
    (do eqGuard .neq 58 x y (aggInts [.i64, .i64] m) (aggInts [.i64, .i64] n); binOp .neq 58 (aggInts [.i64, .i64] m) (aggInts [.i64, .i64] n) : Sem Value).run Try.prog w = .ok (.bool (decide (m ≠ n))) w := by
  exact eqs_by_2 w x y hm hn (by kernel_rfl) (by kernel_rfl) Try.underlying58 Try.underlying2 Try.underlying3 (by decide)
theorem ti58 : TiOk Try.prog 58 { size := 2, bytes := 16, zero := [.int .i64 0, .int .i64 0], kind := .struct [(0, 2), (1, 3)], eqk := [.i64, .i64] } := tiOk_mk info58 rfl rfl rfl (by decide) (⟨_, Try.underlying58, rfl⟩) (by decide) (fun _ => eqs58)
theorem info59 : (Try.prog.info? 59).map (fun i => (i.zero, i.size, i.bytes)) = some (some (.agg #[.int .i64 0, .int .i64 0]), 2, 16) := by kernel_rfl
theorem eqs59 (w : World) (x y : Operand) (m n : List Int) (hm : m.length = 2) (hn : n.length = 2) :
    (do eqGuard .eql 59 x y (aggInts [.i64, .i64] m) (aggInts [.i64, .i64] n); binOp .eql 59 (aggInts [.i64, .i64] m) (aggInts [.i64, .i64] n) : Sem Value).run Try.prog w = .ok (.bool (decide (m = n))) w ∧
    (do eqGuard .neq 59 x y (aggInts [.i64, .i64] m) (aggInts [.i64, .i64] n); binOp .neq 59 (aggInts [.i64, .i64] m) (aggInts [.i64, .i64] n) : Sem Value).run Try.prog w = .ok (.bool (decide (m ≠ n))) w := by
  exact eqs_by_2 w x y hm hn (by kernel_rfl) (by kernel_rfl) Try.underlying59 Try.underlying2 Try.underlying3 (by decide)
theorem ti59 : TiOk Try.prog 59 { size := 2, bytes := 16, zero := [.int .i64 0, .int .i64 0], kind := .struct [(0, 2), (1, 3)], eqk := [.i64, .i64] } := tiOk_mk info59 rfl rfl rfl (by decide) (⟨_, Try.underlying59, rfl⟩) (by decide) (fun _ => eqs59)
theorem info60 : (Try.prog.info? 60).map (fun i => (i.zero, i.size, i.bytes)) = some (some (.nilFunc), 1, 8) := by kernel_rfl
theorem ti60 : TiOk Try.prog 60 { size := 1, bytes := 8, zero := [.nilFunc], kind := .cell } := tiOk_mk info60 rfl rfl rfl (by decide) (⟨_, Try.underlying60, fun _ h => TypeDesc.noConfusion h, fun _ _ h => TypeDesc.noConfusion h⟩) (by decide) (fun h => absurd rfl h)
theorem info61 : (Try.prog.info? 61).map (fun i => (i.zero, i.size, i.bytes)) = some (some (.nilFunc), 1, 8) := by kernel_rfl
theorem ti61 : TiOk Try.prog 61 { size := 1, bytes := 8, zero := [.nilFunc], kind := .cell } := tiOk_mk info61 rfl rfl rfl (by decide) (⟨_, Try.underlying61, fun _ h => TypeDesc.noConfusion h, fun _ _ h => TypeDesc.noConfusion h⟩) (by decide) (fun h => absurd rfl h)
theorem info62 : (Try.prog.info? 62).map (fun i => (i.zero, i.size, i.bytes)) = some (some (.agg #[.int .u32 0, .int .u32 0]), 2, 8) := by kernel_rfl
theorem ti62 : TiOk Try.prog 62 { size := 2, bytes := 8, zero := [.int .u32 0, .int .u32 0], kind := .array 2 54 } := tiOk_mk info62 rfl rfl rfl (by decide) (Try.underlying62) (by decide) (fun h => absurd rfl h)
theorem info63 : (Try.prog.info? 63).map (fun i => (i.zero, i.size, i.bytes)) = some (some (.int .u16 0), 1, 2) := by kernel_rfl
theorem ti63 : TiOk Try.prog 63 { size := 1, bytes := 2, zero := [.int .u16 0], kind := .int .u16 } := tiOk_mk info63 rfl rfl rfl (by decide) (Try.underlying63) (by decide) (fun h => absurd rfl h)
theorem info64 : (Try.prog.info? 64).map (fun i => (i.zero, i.size, i.bytes)) = some (some (.agg #[.int .u16 0, .int .u16 0, .int .u16 0]), 3, 6) := by kernel_rfl
theorem ti64 : TiOk Try.prog 64 { size := 3, bytes := 6, zero := [.int .u16 0, .int .u16 0, .int .u16 0], kind := .array 3 63 } := tiOk_mk info64 rfl rfl rfl (by decide) (Try.underlying64) (by decide) (fun h => absurd rfl h)
theorem info66 : (Try.prog.info? 66).map (fun i => (i.zero, i.size, i.bytes)) = some (some (.nilFunc), 1, 8) := by kernel_rfl
theorem ti66 : TiOk Try.prog 66 { size := 1, bytes := 8, zero := [.nilFunc], kind := .cell } := tiOk_mk info66 rfl rfl rfl (by decide) (⟨_, Try.underlying66, fun _ h => TypeDesc.noConfusion h, fun _ _ h => TypeDesc.noConfusion h⟩) (by decide) (fun h => absurd rfl h)
theorem info67 : (Try.prog.info? 67).map (fun i => (i.zero, i.size, i.bytes)) = some (some (.nilFunc), 1, 8) := by kernel_rfl
theorem ti67 : TiOk Try.prog 67 { size := 1, bytes := 8, zero := [.nilFunc], kind := .cell } := tiOk_mk info67 rfl rfl rfl (by decide) (⟨_, Try.underlying67, fun _ h => TypeDesc.noConfusion h, fun _ _ h => TypeDesc.noConfusion h⟩) (by decide) (fun h => absurd rfl h)
theorem info68 : (Try.prog.info? 68).map (fun i => (i.zero, i.size, i.bytes)) = some (some (.slice none 0 0), 1, 24) := by kernel_rfl
theorem ti68 : TiOk Try.prog 68 { size := 1, bytes := 24, zero := [.slice none 0 0], kind := .slice 25 } := tiOk_mk info68 rfl rfl rfl (by decide) (Try.underlying68) (by decide) (fun h => absurd rfl h)
theorem info69 : (Try.prog.info? 69).map (fun i => (i.zero, i.size, i.bytes)) = some (some (.nilFunc), 1, 8) := by kernel_rfl
theorem ti69 : TiOk Try.prog 69 { size := 1, bytes := 8, zero := [.nilFunc], kind := .cell } := tiOk_mk info69 rfl rfl rfl (by decide) (⟨_, Try.underlying69, fun _ h => TypeDesc.noConfusion h, fun _ _ h => TypeDesc.noConfusion h⟩) (by decide) (fun h => absurd rfl h)
theorem info70 : (Try.prog.info? 70).map (fun i => (i.zero, i.size, i.bytes)) = some (some (.nilFunc), 1, 8) := by kernel_rfl
theorem ti70 : TiOk Try.prog 70 { size := 1, bytes := 8, zero := [.nilFunc], kind := .cell } := tiOk_mk info70 rfl rfl rfl (by decide) (⟨_, Try.underlying70, fun _ h => TypeDesc.noConfusion h, fun _ _ h => TypeDesc.noConfusion h⟩) (by decide) (fun h => absurd rfl h)
theorem info71 : (Try.prog.info? 71).map (fun i => (i.zero, i.size, i.bytes)) = some (some (.nilFunc), 1, 8) := by kernel_rfl
theorem ti71 : TiOk Try.prog 71 { size := 1, bytes := 8, zero := [.nilFunc], kind := .cell } := tiOk_mk info71 rfl rfl rfl (by decide) (⟨_, Try.underlying71, fun _ h => TypeDesc.noConfusion h, fun _ _ h => TypeDesc.noConfusion h⟩) (by decide) (fun h => absurd rfl h)
theorem info72 : (Try.prog.info? 72).map (fun i => (i.zero, i.size, i.bytes)) = some (some (.nilFunc), 1, 8) := by kernel_rfl
theorem ti72 : TiOk Try.prog 72 { size := 1, bytes := 8, zero := [.nilFunc], kind := .cell } := tiOk_mk info72 rfl rfl rfl (by decide) (⟨_, Try.underlying72, fun _ h => TypeDesc.noConfusion h, fun _ _ h => TypeDesc.noConfusion h⟩) (by decide) (fun h => absurd rfl h)
theorem info73 : (Try.prog.info? 73).map (fun i => (i.zero, i.size, i.bytes)) = some (some (.nilFunc), 1, 8) := by kernel_rfl
theorem ti73 : TiOk Try.prog 73 { size := 1, bytes := 8, zero := [.nilFunc], kind := .cell } := tiOk_mk info73 rfl rfl rfl (by decide) (⟨_, Try.underlying73, fun _ h => TypeDesc.noConfusion h, fun _ _ h => TypeDesc.noConfusion h⟩) (by decide) (fun h => absurd rfl h)
theorem info74 : (Try.prog.info? 74).map (fun i => (i.zero, i.size, i.bytes)) = some (some (.slice none 0 0), 1, 24) := by kernel_rfl
theorem ti74 : TiOk Try.prog 74 { size := 1, bytes := 24, zero := [.slice none 0 0], kind := .slice 23 } := tiOk_mk info74 rfl rfl rfl (by decide) (Try.underlying74) (by decide) (fun h => absurd rfl h)
theorem info75 : (Try.prog.info? 75).map (fun i => (i.zero, i.size, i.bytes)) = some (some (.nilFunc), 1, 8) := by kernel_rfl
theorem ti75 : TiOk Try.prog 75 { size := 1, bytes := 8, zero := [.nilFunc], kind := .cell } := tiOk_mk info75 rfl rfl rfl (by decide) (⟨_, Try.underlying75, fun _ h => TypeDesc.noConfusion h, fun _ _ h => TypeDesc.noConfusion h⟩) (by decide) (fun h => absurd rfl h)
theorem info76 : (Try.prog.info? 76).map (fun i => (i.zero, i.size, i.bytes)) = some (some (.pointer none), 1, 8) := by kernel_rfl
theorem ti76 : TiOk Try.prog 76 { size := 1, bytes := 8, zero := [.pointer none], kind := .cell } := tiOk_mk info76 rfl rfl rfl (by decide) (⟨_, Try.underlying76, fun _ h => TypeDesc.noConfusion h, fun _ _ h => TypeDesc.noConfusion h⟩) (by decide) (fun h => absurd rfl h)
theorem info78 : (Try.prog.info? 78).map (fun i => (i.zero, i.size, i.bytes)) = some (some (.nilFunc), 1, 8) := by kernel_rfl
theorem ti78 : TiOk Try.prog 78 { size := 1, bytes := 8, zero := [.nilFunc], kind := .cell } := tiOk_mk info78 rfl rfl rfl (by decide) (⟨_, Try.underlying78, fun _ h => TypeDesc.noConfusion h, fun _ _ h => TypeDesc.noConfusion h⟩) (by decide) (fun h => absurd rfl h)
theorem info79 : (Try.prog.info? 79).map (fun i => (i.zero, i.size, i.bytes)) = some (some (.nilFunc), 1, 8) := by kernel_rfl
theorem ti79 : TiOk Try.prog 79 { size := 1, bytes := 8, zero := [.nilFunc], kind := .cell } := tiOk_mk info79 rfl rfl rfl (by decide) (⟨_, Try.underlying79, fun _ h => TypeDesc.noConfusion h, fun _ _ h => TypeDesc.noConfusion h⟩) (by decide) (fun h => absurd rfl h)
theorem info80 : (Try.prog.info? 80).map (fun i => (i.zero, i.size, i.bytes)) = some (some (.agg #[.int .i64 0, .int .i64 0, .int .i64 0, .int .i64 0, .int .i64 0, .int .i64 0, .int .i64 0, .int .i64 0, .int .i64 0, .int .i64 0, .int .i64 0, .int .i64 0, .int .i64 0, .int .i64 0, .int .i64 0, .int .i64 0, .int .i64 0, .int .i64 0, .int .i64 0, .int .i64 0, .int .i64 0, .int .i64 0, .int .i64 0, .int .i64 0]), 24, 192) := by kernel_rfl
theorem ti80 : TiOk Try.prog 80 { size := 24, bytes := 192, zero := [.int .i64 0, .int .i64 0, .int .i64 0, .int .i64 0, .int .i64 0, .int .i64 0, .int .i64 0, .int .i64 0, .int .i64 0, .int .i64 0, .int .i64 0, .int .i64 0, .int .i64 0, .int .i64 0, .int .i64 0, .int .i64 0, .int .i64 0, .int .i64 0, .int .i64 0, .int .i64 0, .int .i64 0, .int .i64 0, .int .i64 0, .int .i64 0], kind := .array 12 23 } := tiOk_mk info80 rfl rfl rfl (by decide) (Try.underlying80) (by decide) (fun h => absurd rfl h)
theorem info81 : (Try.prog.info? 81).map (fun i => (i.zero, i.size, i.bytes)) = some (some (.agg #[.int .i64 0, .int .i64 0, .int .i64 0, .int .i64 0, .int .i64 0, .int .i64 0, .int .i64 0, .int .i64 0, .int .i64 0, .int .i64 0, .int .i64 0, .int .i64 0, .int .i64 0, .int .i64 0, .int .i64 0, .int .i64 0, .int .i64 0, .int .i64 0, .int .i64 0, .int .i64 0, .int .i64 0, .int .i64 0, .int .i64 0, .int .i64 0]), 24, 192) := by kernel_rfl
theorem ti81 : TiOk Try.prog 81 { size := 24, bytes := 192, zero := [.int .i64 0, .int .i64 0, .int .i64 0, .int .i64 0, .int .i64 0, .int .i64 0, .int .i64 0, .int .i64 0, .int .i64 0, .int .i64 0, .int .i64 0, .int .i64 0, .int .i64 0, .int .i64 0, .int .i64 0, .int .i64 0, .int .i64 0, .int .i64 0, .int .i64 0, .int .i64 0, .int .i64 0, .int .i64 0, .int .i64 0, .int .i64 0], kind := .array 12 23 } := tiOk_mk info81 rfl rfl rfl (by decide) (Try.underlying81) (by decide) (fun h => absurd rfl h)
theorem info82 : (Try.prog.info? 82).map (fun i => (i.zero, i.size, i.bytes)) = some (some (.agg #[.int .i64 0, .int .i64 0, .int .i64 0, .int .i64 0, .int .i64 0, .slice none 0 0, .int .i64 0, .int .i64 0, .int .i64 0, .int .i64 0, .int .i64 0, .int .i64 0, .int .i64 0, .int .i64 0, .int .i64 0, .int .i64 0, .int .i64 0, .int .i64 0, .int .i64 0, .int .i64 0, .int .i64 0, .int .i64 0, .int .i64 0, .int .i64 0, .int .i64 0, .int .i64 0, .int .i64 0, .int .i64 0, .int .i64 0, .int .i64 0]), 30, 256) := by kernel_rfl
theorem ti82 : TiOk Try.prog 82 { size := 30, bytes := 256, zero := [.int .i64 0, .int .i64 0, .int .i64 0, .int .i64 0, .int .i64 0, .slice none 0 0, .int .i64 0, .int .i64 0, .int .i64 0, .int .i64 0, .int .i64 0, .int .i64 0, .int .i64 0, .int .i64 0, .int .i64 0, .int .i64 0, .int .i64 0, .int .i64 0, .int .i64 0, .int .i64 0, .int .i64 0, .int .i64 0, .int .i64 0, .int .i64 0, .int .i64 0, .int .i64 0, .int .i64 0, .int .i64 0, .int .i64 0, .int .i64 0], kind := .struct [(0, 25), (5, 26), (6, 81)] } := tiOk_mk info82 rfl rfl rfl (by decide) (⟨_, Try.underlying82, rfl⟩) (by decide) (fun h => absurd rfl h)
theorem info83 : (Try.prog.info? 83).map (fun i => (i.zero, i.size, i.bytes)) = some (some (.agg #[.int .i64 0, .int .i64 0, .int .i64 0, .int .i64 0, .int .i64 0, .slice none 0 0, .int .i64 0, .int .i64 0, .int .i64 0, .int .i64 0, .int .i64 0, .int .i64 0, .int .i64 0, .int .i64 0, .int .i64 0, .int .i64 0, .int .i64 0, .int .i64 0, .int .i64 0, .int .i64 0, .int .i64 0, .int .i64 0, .int .i64 0, .int .i64 0, .int .i64 0, .int .i64 0, .int .i64 0, .int .i64 0, .int .i64 0, .int .i64 0]), 30, 256) := by kernel_rfl
theorem ti83 : TiOk Try.prog 83 { size := 30, bytes := 256, zero := [.int .i64 0, .int .i64 0, .int .i64 0, .int .i64 0, .int .i64 0, .slice none 0 0, .int .i64 0, .int .i64 0, .int .i64 0, .int .i64 0, .int .i64 0, .int .i64 0, .int .i64 0, .int .i64 0, .int .i64 0, .int .i64 0, .int .i64 0, .int .i64 0, .int .i64 0, .int .i64 0, .int .i64 0, .int .i64 0, .int .i64 0, .int .i64 0, .int .i64 0, .int .i64 0, .int .i64 0, .int .i64 0, .int .i64 0, .int .i64 0], kind := .struct [(0, 25), (5, 26), (6, 81)] } := tiOk_mk info83 rfl rfl rfl (by decide) (⟨_, Try.underlying83, rfl⟩) (by decide) (fun h => absurd rfl h)
theorem info84 : (Try.prog.info? 84).map (fun i => (i.zero, i.size, i.bytes)) = some (some (.nilFunc), 1, 8) := by kernel_rfl
theorem ti84 : TiOk Try.prog 84 { size := 1, bytes := 8, zero := [.nilFunc], kind := .cell } := tiOk_mk info84 rfl rfl rfl (by decide) (⟨_, Try.underlying84, fun _ h => TypeDesc.noConfusion h, fun _ _ h => TypeDesc.noConfusion h⟩) (by decide) (fun h => absurd rfl h)
theorem info86 : (Try.prog.info? 86).map (fun i => (i.zero, i.size, i.bytes)) = some (some (.nilFunc), 1, 8) := by kernel_rfl
theorem ti86 : TiOk Try.prog 86 { size := 1, bytes := 8, zero := [.nilFunc], kind := .cell } := tiOk_mk info86 rfl rfl rfl (by decide) (⟨_, Try.underlying86, fun _ h => TypeDesc.noConfusion h, fun _ _ h => TypeDesc.noConfusion h⟩) (by decide) (fun h => absurd rfl h)
theorem info87 : (Try.prog.info? 87).map (fun i => (i.zero, i.size, i.bytes)) = some (some (.nilFunc), 1, 8) := by kernel_rfl
theorem ti87 : TiOk Try.prog 87 { size := 1, bytes := 8, zero := [.nilFunc], kind := .cell } := tiOk_mk info87 rfl rfl rfl (by decide) (⟨_, Try.underlying87, fun _ h => TypeDesc.noConfusion h, fun _ _ h => TypeDesc.noConfusion h⟩) (by decide) (fun h => absurd rfl h)
theorem info88 : (Try.prog.info? 88).map (fun i => (i.zero, i.size, i.bytes)) = some (some (.nilFunc), 1, 8) := by kernel_rfl
theorem ti88 : TiOk Try.prog 88 { size := 1, bytes := 8, zero := [.nilFunc], kind := .cell } := tiOk_mk info88 rfl rfl rfl (by decide) (⟨_, Try.underlying88, fun _ h => TypeDesc.noConfusion h, fun _ _ h => TypeDesc.noConfusion h⟩) (by decide) (fun h => absurd rfl h)
theorem info89 : (Try.prog.info? 89).map (fun i => (i.zero, i.size, i.bytes)) = some (some (.nilFunc), 1, 8) := by kernel_rfl
theorem ti89 : TiOk Try.prog 89 { size := 1, bytes := 8, zero := [.nilFunc], kind := .cell } := tiOk_mk info89 rfl rfl rfl (by decide) (⟨_, Try.underlying89, fun _ h => TypeDesc.noConfusion h, fun _ _ h => TypeDesc.noConfusion h⟩) (by decide) (fun h => absurd rfl h)
theorem info90 : (Try.prog.info? 90).map (fun i => (i.zero, i.size, i.bytes)) = some (some (.nilFunc), 1, 8) := by kernel_rfl
theorem ti90 : TiOk Try.prog 90 { size := 1, bytes := 8, zero := [.nilFunc], kind := .cell } := tiOk_mk info90 rfl rfl rfl (by decide) (⟨_, Try.underlying90, fun _ h => TypeDesc.noConfusion h, fun _ _ h => TypeDesc.noConfusion h⟩) (by decide) (fun h => absurd rfl h)
theorem info91 : (Try.prog.info? 91).map (fun i => (i.zero, i.size, i.bytes)) = some (some (.nilFunc), 1, 8) := by kernel_rfl
theorem ti91 : TiOk Try.prog 91 { size := 1, bytes := 8, zero := [.nilFunc], kind := .cell } := tiOk_mk info91 rfl rfl rfl (by decide) (⟨_, Try.underlying91, fun _ h => TypeDesc.noConfusion h, fun _ _ h => TypeDesc.noConfusion h⟩) (by decide) (fun h => absurd rfl h)
theorem info92 : (Try.prog.info? 92).map (fun i => (i.zero, i.size, i.bytes)) = some (some (.nilFunc), 1, 8) := by kernel_rfl
theorem ti92 : TiOk Try.prog 92 { size := 1, bytes := 8, zero := [.nilFunc], kind := .cell } := tiOk_mk info92 rfl rfl rfl (by decide) (⟨_, Try.underlying92, fun _ h => TypeDesc.noConfusion h, fun _ _ h => TypeDesc.noConfusion h⟩) (by decide) (fun h => absurd rfl h)
theorem info93 : (Try.prog.info? 93).map (fun i => (i.zero, i.size, i.bytes)) = some (some (.nilFunc), 1, 8) := by kernel_rfl
theorem ti93 : TiOk Try.prog 93 { size := 1, bytes := 8, zero := [.nilFunc], kind := .cell } := tiOk_mk info93 rfl rfl rfl (by decide) (⟨_, Try.underlying93, fun _ h => TypeDesc.noConfusion h, fun _ _ h => TypeDesc.noConfusion h⟩) (by decide) (fun h => absurd rfl h)
theorem info94 : (Try.prog.info? 94).map (fun i => (i.zero, i.size, i.bytes)) = some (some (.nilFunc), 1, 8) := by kernel_rfl
theorem ti94 : TiOk Try.prog 94 { size := 1, bytes := 8, zero := [.nilFunc], kind := .cell } := tiOk_mk info94 rfl rfl rfl (by decide) (⟨_, Try.underlying94, fun _ h => TypeDesc.noConfusion h, fun _ _ h => TypeDesc.noConfusion h⟩) (by decide) (fun h => absurd rfl h)
theorem info95 : (Try.prog.info? 95).map (fun i => (i.zero, i.size, i.bytes)) = some (some (.nilFunc), 1, 8) := by kernel_rfl
theorem ti95 : TiOk Try.prog 95 { size := 1, bytes := 8, zero := [.nilFunc], kind := .cell } := tiOk_mk info95 rfl rfl rfl (by decide) (⟨_, Try.underlying95, fun _ h => TypeDesc.noConfusion h, fun _ _ h => TypeDesc.noConfusion h⟩) (by decide) (fun h => absurd rfl h)
theorem info96 : (Try.prog.info? 96).map (fun i => (i.zero, i.size, i.bytes)) = some (some (.nilFunc), 1, 8) := by kernel_rfl
theorem ti96 : TiOk Try.prog 96 { size := 1, bytes := 8, zero := [.nilFunc], kind := .cell } := tiOk_mk info96 rfl rfl rfl (by decide) (⟨_, Try.underlying96, fun _ h => TypeDesc.noConfusion h, fun _ _ h => TypeDesc.noConfusion h⟩) (by decide) (fun h => absurd rfl h)
theorem info97 : (Try.prog.info? 97).map (fun i => (i.zero, i.size, i.bytes)) = some (some (.nilFunc), 1, 8) := by kernel_rfl
theorem ti97 : TiOk Try.prog 97 { size := 1, bytes := 8, zero := [.nilFunc], kind := .cell } := tiOk_mk info97 rfl rfl rfl (by decide) (⟨_, Try.underlying97, fun _ h => TypeDesc.noConfusion h, fun _ _ h => TypeDesc.noConfusion h⟩) (by decide) (fun h => absurd rfl h)
theorem info98 : (Try.prog.info? 98).map (fun i => (i.zero, i.size, i.bytes)) = some (some (.nilFunc), 1, 8) := by kernel_rfl
theorem ti98 : TiOk Try.prog 98 { size := 1, bytes := 8, zero := [.nilFunc], kind := .cell } := tiOk_mk info98 rfl rfl rfl (by decide) (⟨_, Try.underlying98, fun _ h => TypeDesc.noConfusion h, fun _ _ h => TypeDesc.noConfusion h⟩) (by decide) (fun h => absurd rfl h)
theorem info99 : (Try.prog.info? 99).map (fun i => (i.zero, i.size, i.bytes)) = some (some (.nilFunc), 1, 8) := by kernel_rfl
theorem ti99 : TiOk Try.prog 99 { size := 1, bytes := 8, zero := [.nilFunc], kind := .cell } := tiOk_mk info99 rfl rfl rfl (by decide) (⟨_, Try.underlying99, fun _ h => TypeDesc.noConfusion h, fun _ _ h => TypeDesc.noConfusion h⟩) (by decide) (fun h => absurd rfl h)
theorem info100 : (Try.prog.info? 100).map (fun i => (i.zero, i.size, i.bytes)) = some (some (.nilFunc), 1, 8) := by kernel_rfl
theorem ti100 : TiOk Try.prog 100 { size := 1, bytes := 8, zero := [.nilFunc], kind := .cell } := tiOk_mk info100 rfl rfl rfl (by decide) (⟨_, Try.underlying100, fun _ h => TypeDesc.noConfusion h, fun _ _ h => TypeDesc.noConfusion h⟩) (by decide) (fun h => absurd rfl h)
theorem info102 : (Try.prog.info? 102).map (fun i => (i.zero, i.size, i.bytes)) = some (some (.nilFunc), 1, 8) := by kernel_rfl
theorem ti102 : TiOk Try.prog 102 { size := 1, bytes := 8, zero := [.nilFunc], kind := .cell } := tiOk_mk info102 rfl rfl rfl (by decide) (⟨_, Try.underlying102, fun _ h => TypeDesc.noConfusion h, fun _ _ h => TypeDesc.noConfusion h⟩) (by decide) (fun h => absurd rfl h)
theorem info103 : (Try.prog.info? 103).map (fun i => (i.zero, i.size, i.bytes)) = some (some (.nilFunc), 1, 8) := by kernel_rfl
theorem ti103 : TiOk Try.prog 103 { size := 1, bytes := 8, zero := [.nilFunc], kind := .cell } := tiOk_mk info103 rfl rfl rfl (by decide) (⟨_, Try.underlying103, fun _ h => TypeDesc.noConfusion h, fun _ _ h => TypeDesc.noConfusion h⟩) (by decide) (fun h => absurd rfl h)
theorem info104 : (Try.prog.info? 104).map (fun i => (i.zero, i.size, i.bytes)) = some (some (.nilFunc), 1, 8) := by kernel_rfl
theorem ti104 : TiOk Try.prog 104 { size := 1, bytes := 8, zero := [.nilFunc], kind := .cell } := tiOk_mk info104 rfl rfl rfl (by decide) (⟨_, Try.underlying104, fun _ h => TypeDesc.noConfusion h, fun _ _ h => TypeDesc.noConfusion h⟩) (by decide) (fun h => absurd rfl h)
theorem info105 : (Try.prog.info? 105).map (fun i => (i.zero, i.size, i.bytes)) = some (some (.nilFunc), 1, 8) := by kernel_rfl
theorem ti105 : TiOk Try.prog 105 { size := 1, bytes := 8, zero := [.nilFunc], kind := .cell } := tiOk_mk info105 rfl rfl rfl (by decide) (⟨_, Try.underlying105, fun _ h => TypeDesc.noConfusion h, fun _ _ h => TypeDesc.noConfusion h⟩) (by decide) (fun h => absurd rfl h)
theorem info106 : (Try.prog.info? 106).map (fun i => (i.zero, i.size, i.bytes)) = some (some (.nilFunc), 1, 8) := by kernel_rfl
theorem ti106 : TiOk Try.prog 106 { size := 1, bytes := 8, zero := [.nilFunc], kind := .cell } := tiOk_mk info106 rfl rfl rfl (by decide) (⟨_, Try.underlying106, fun _ h => TypeDesc.noConfusion h, fun _ _ h => TypeDesc.noConfusion h⟩) (by decide) (fun h => absurd rfl h)
theorem info107 : (Try.prog.info? 107).map (fun i => (i.zero, i.size, i.bytes)) = some (some (.nilFunc), 1, 8) := by kernel_rfl
theorem ti107 : TiOk Try.prog 107 { size := 1, bytes := 8, zero := [.nilFunc], kind := .cell } := tiOk_mk info107 rfl rfl rfl (by decide) (⟨_, Try.underlying107, fun _ h => TypeDesc.noConfusion h, fun _ _ h => TypeDesc.noConfusion h⟩) (by decide) (fun h => absurd rfl h)
theorem info108 : (Try.prog.info? 108).map (fun i => (i.zero, i.size, i.bytes)) = some (some (.nilFunc), 1, 8) := by kernel_rfl
theorem ti108 : TiOk Try.prog 108 { size := 1, bytes := 8, zero := [.nilFunc], kind := .cell } := tiOk_mk info108 rfl rfl rfl (by decide) (⟨_, Try.underlying108, fun _ h => TypeDesc.noConfusion h, fun _ _ h => TypeDesc.noConfusion h⟩) (by decide) (fun h => absurd rfl h)
theorem info109 : (Try.prog.info? 109).map (fun i => (i.zero, i.size, i.bytes)) = some (some (.nilFunc), 1, 8) := by kernel_rfl
theorem ti109 : TiOk Try.prog 109 { size := 1, bytes := 8, zero := [.nilFunc], kind := .cell } := tiOk_mk info109 rfl rfl rfl (by decide) (⟨_, Try.underlying109, fun _ h => TypeDesc.noConfusion h, fun _ _ h => TypeDesc.noConfusion h⟩) (by decide) (fun h => absurd rfl h)
theorem info110 : (Try.prog.info? 110).map (fun i => (i.zero, i.size, i.bytes)) = some (some (.nilFunc), 1, 8) := by kernel_rfl
theorem ti110 : TiOk Try.prog 110 { size := 1, bytes := 8, zero := [.nilFunc], kind := .cell } := tiOk_mk info110 rfl rfl rfl (by decide) (⟨_, Try.underlying110, fun _ h => TypeDesc.noConfusion h, fun _ _ h => TypeDesc.noConfusion h⟩) (by decide) (fun h => absurd rfl h)
theorem info111 : (Try.prog.info? 111).map (fun i => (i.zero, i.size, i.bytes)) = some (some (.nilFunc), 1, 8) := by kernel_rfl
theorem ti111 : TiOk Try.prog 111 { size := 1, bytes := 8, zero := [.nilFunc], kind := .cell } := tiOk_mk info111 rfl rfl rfl (by decide) (⟨_, Try.underlying111, fun _ h => TypeDesc.noConfusion h, fun _ _ h => TypeDesc.noConfusion h⟩) (by decide) (fun h => absurd rfl h)
theorem info112 : (Try.prog.info? 112).map (fun i => (i.zero, i.size, i.bytes)) = some (some (.nilFunc), 1, 8) := by kernel_rfl
theorem ti112 : TiOk Try.prog 112 { size := 1, bytes := 8, zero := [.nilFunc], kind := .cell } := tiOk_mk info112 rfl rfl rfl (by decide) (⟨_, Try.underlying112, fun _ h => TypeDesc.noConfusion h, fun _ _ h => TypeDesc.noConfusion h⟩) (by decide) (fun h => absurd rfl h)
theorem info113 : (Try.prog.info? 113).map (fun i => (i.zero, i.size, i.bytes)) = some (some (.nilFunc), 1, 8) := by kernel_rfl
theorem ti113 : TiOk Try.prog 113 { size := 1, bytes := 8, zero := [.nilFunc], kind := .cell } := tiOk_mk info113 rfl rfl rfl (by decide) (⟨_, Try.underlying113, fun _ h => TypeDesc.noConfusion h, fun _ _ h => TypeDesc.noConfusion h⟩) (by decide) (fun h => absurd rfl h)
theorem info114 : (Try.prog.info? 114).map (fun i => (i.zero, i.size, i.bytes)) = some (some (.nilFunc), 1, 8) := by kernel_rfl
theorem ti114 : TiOk Try.prog 114 { size := 1, bytes := 8, zero := [.nilFunc], kind := .cell } := tiOk_mk info114 rfl rfl rfl (by decide) (⟨_, Try.underlying114, fun _ h => TypeDesc.noConfusion h, fun _ _ h => TypeDesc.noConfusion h⟩) (by decide) (fun h => absurd rfl h)
theorem info115 : (Try.prog.info? 115).map (fun i => (i.zero, i.size, i.bytes)) = some (some (.map none), 1, 8) := by kernel_rfl
theorem ti115 : TiOk Try.prog 115 { size := 1, bytes := 8, zero := [.map none], kind := .cell } := tiOk_mk info115 rfl rfl rfl (by decide) (⟨_, Try.underlying115, fun _ h => TypeDesc.noConfusion h, fun _ _ h => TypeDesc.noConfusion h⟩) (by decide) (fun h => absurd rfl h)
theorem info116 : (Try.prog.info? 116).map (fun i => (i.zero, i.size, i.bytes)) = some (some (.nilFunc), 1, 8) := by kernel_rfl
theorem ti116 : TiOk Try.prog 116 { size := 1, bytes := 8, zero := [.nilFunc], kind := .cell } := tiOk_mk info116 rfl rfl rfl (by decide) (⟨_, Try.underlying116, fun _ h => TypeDesc.noConfusion h, fun _ _ h => TypeDesc.noConfusion h⟩) (by decide) (fun h => absurd rfl h)
theorem info117 : (Try.prog.info? 117).map (fun i => (i.zero, i.size, i.bytes)) = some (some (.nilFunc), 1, 8) := by kernel_rfl
theorem ti117 : TiOk Try.prog 117 { size := 1, bytes := 8, zero := [.nilFunc], kind := .cell } := tiOk_mk info117 rfl rfl rfl (by decide) (⟨_, Try.underlying117, fun _ h => TypeDesc.noConfusion h, fun _ _ h => TypeDesc.noConfusion h⟩) (by decide) (fun h => absurd rfl h)
theorem info118 : (Try.prog.info? 118).map (fun i => (i.zero, i.size, i.bytes)) = some (some (.nilFunc), 1, 8) := by kernel_rfl
theorem ti118 : TiOk Try.prog 118 { size := 1, bytes := 8, zero := [.nilFunc], kind := .cell } := tiOk_mk info118 rfl rfl rfl (by decide) (⟨_, Try.underlying118, fun _ h => TypeDesc.noConfusion h, fun _ _ h => TypeDesc.noConfusion h⟩) (by decide) (fun h => absurd rfl h)
theorem info119 : (Try.prog.info? 119).map (fun i => (i.zero, i.size, i.bytes)) = some (some (.nilFunc), 1, 8) := by kernel_rfl
theorem ti119 : TiOk Try.prog 119 { size := 1, bytes := 8, zero := [.nilFunc], kind := .cell } := tiOk_mk info119 rfl rfl rfl (by decide) (⟨_, Try.underlying119, fun _ h => TypeDesc.noConfusion h, fun _ _ h => TypeDesc.noConfusion h⟩) (by decide) (fun h => absurd rfl h)
theorem info120 : (Try.prog.info? 120).map (fun i => (i.zero, i.size, i.bytes)) = some (some (.nilFunc), 1, 8) := by kernel_rfl
theorem ti120 : TiOk Try.prog 120 { size := 1, bytes := 8, zero := [.nilFunc], kind := .cell } := tiOk_mk info120 rfl rfl rfl (by decide) (⟨_, Try.underlying120, fun _ h => TypeDesc.noConfusion h, fun _ _ h => TypeDesc.noConfusion h⟩) (by decide) (fun h => absurd rfl h)
theorem info121 : (Try.prog.info? 121).map (fun i => (i.zero, i.size, i.bytes)) = some (some (.nilFunc), 1, 8) := by kernel_rfl
theorem ti121 : TiOk Try.prog 121 { size := 1, bytes := 8, zero := [.nilFunc], kind := .cell } := tiOk_mk info121 rfl rfl rfl (by decide) (⟨_, Try.underlying121, fun _ h => TypeDesc.noConfusion h, fun _ _ h => TypeDesc.noConfusion h⟩) (by decide) (fun h => absurd rfl h)
theorem info122 : (Try.prog.info? 122).map (fun i => (i.zero, i.size, i.bytes)) = some (some (.nilFunc), 1, 8) := by kernel_rfl
theorem ti122 : TiOk Try.prog 122 { size := 1, bytes := 8, zero := [.nilFunc], kind := .cell } := tiOk_mk info122 rfl rfl rfl (by decide) (⟨_, Try.underlying122, fun _ h => TypeDesc.noConfusion h, fun _ _ h => TypeDesc.noConfusion h⟩) (by decide) (fun h => absurd rfl h)
theorem info123 : (Try.prog.info? 123).map (fun i => (i.zero, i.size, i.bytes)) = some (some (.nilFunc), 1, 8) := by kernel_rfl
theorem ti123 : TiOk Try.prog 123 { size := 1, bytes := 8, zero := [.nilFunc], kind := .cell } := tiOk_mk info123 rfl rfl rfl (by decide) (⟨_, Try.underlying123, fun _ h => TypeDesc.noConfusion h, fun _ _ h => TypeDesc.noConfusion h⟩) (by decide) (fun h => absurd rfl h)
theorem info124 : (Try.prog.info? 124).map (fun i => (i.zero, i.size, i.bytes)) = some (some (.agg #[.bool false, .bool false, .bool false, .bool false, .bool false, .bool false, .bool false, .bool false, .bool false, .bool false, .bool false, .bool false]), 12, 12) := by kernel_rfl
theorem ti124 : TiOk Try.prog 124 { size := 12, bytes := 12, zero := [.bool false, .bool false, .bool false, .bool false, .bool false, .bool false, .bool false, .bool false, .bool false, .bool false, .bool false, .bool false], kind := .array 12 4 } := tiOk_mk info124 rfl rfl rfl (by decide) (Try.underlying124) (by decide) (fun h => absurd rfl h)
theorem info125 : (Try.prog.info? 125).map (fun i => (i.zero, i.size, i.bytes)) = some (some (.slice none 0 0), 1, 24) := by kernel_rfl
theorem ti125 : TiOk Try.prog 125 { size := 1, bytes := 24, zero := [.slice none 0 0], kind := .slice 4 } := tiOk_mk info125 rfl rfl rfl (by decide) (Try.underlying125) (by decide) (fun h => absurd rfl h)
theorem info126 : (Try.prog.info? 126).map (fun i => (i.zero, i.size, i.bytes)) = some (some (.nilFunc), 1, 8) := by kernel_rfl
theorem ti126 : TiOk Try.prog 126 { size := 1, bytes := 8, zero := [.nilFunc], kind := .cell } := tiOk_mk info126 rfl rfl rfl (by decide) (⟨_, Try.underlying126, fun _ h => TypeDesc.noConfusion h, fun _ _ h => TypeDesc.noConfusion h⟩) (by decide) (fun h => absurd rfl h)
theorem info127 : (Try.prog.info? 127).map (fun i => (i.zero, i.size, i.bytes)) = some (some (.nilFunc), 1, 8) := by kernel_rfl
theorem ti127 : TiOk Try.prog 127 { size := 1, bytes := 8, zero := [.nilFunc], kind := .cell } := tiOk_mk info127 rfl rfl rfl (by decide) (⟨_, Try.underlying127, fun _ h => TypeDesc.noConfusion h, fun _ _ h => TypeDesc.noConfusion h⟩) (by decide) (fun h => absurd rfl h)
theorem info133 : (Try.prog.info? 133).map (fun i => (i.zero, i.size, i.bytes)) = some (some (.nilFunc), 1, 8) := by kernel_rfl
theorem ti133 : TiOk Try.prog 133 { size := 1, bytes := 8, zero := [.nilFunc], kind := .cell } := tiOk_mk info133 rfl rfl rfl (by decide) (⟨_, Try.underlying133, fun _ h => TypeDesc.noConfusion h, fun _ _ h => TypeDesc.noConfusion h⟩) (by decide) (fun h => absurd rfl h)
theorem info134 : (Try.prog.info? 134).map (fun i => (i.zero, i.size, i.bytes)) = some (some (.int .u8 0), 1, 1) := by kernel_rfl
theorem ti134 : TiOk Try.prog 134 { size := 1, bytes := 1, zero := [.int .u8 0], kind := .int .u8 } := tiOk_mk info134 rfl rfl rfl (by decide) (Try.underlying134) (by decide) (fun h => absurd rfl h)
theorem info135 : (Try.prog.info? 135).map (fun i => (i.zero, i.size, i.bytes)) = some (some (.int .u8 0), 1, 1) := by kernel_rfl
theorem ti135 : TiOk Try.prog 135 { size := 1, bytes := 1, zero := [.int .u8 0], kind := .int .u8 } := tiOk_mk info135 rfl rfl rfl (by decide) (Try.underlying135) (by decide) (fun h => absurd rfl h)
theorem info136 : (Try.prog.info? 136).map (fun i => (i.zero, i.size, i.bytes)) = some (some (.nilFunc), 1, 8) := by kernel_rfl
theorem ti136 : TiOk Try.prog 136 { size := 1, bytes := 8, zero := [.nilFunc], kind := .cell } := tiOk_mk info136 rfl rfl rfl (by decide) (⟨_, Try.underlying136, fun _ h => TypeDesc.noConfusion h, fun _ _ h => TypeDesc.noConfusion h⟩) (by decide) (fun h => absurd rfl h)
theorem info137 : (Try.prog.info? 137).map (fun i => (i.zero, i.size, i.bytes)) = some (some (.pointer none), 1, 8) := by kernel_rfl
theorem ti137 : TiOk Try.prog 137 { size := 1, bytes := 8, zero := [.pointer none], kind := .cell } := tiOk_mk info137 rfl rfl rfl (by decide) (⟨_, Try.underlying137, fun _ h => TypeDesc.noConfusion h, fun _ _ h => TypeDesc.noConfusion h⟩) (by decide) (fun h => absurd rfl h)
theorem info138 : (Try.prog.info? 138).map (fun i => (i.zero, i.size, i.bytes)) = some (some (.int .i32 0), 1, 4) := by kernel_rfl
theorem ti138 : TiOk Try.prog 138 { size := 1, bytes := 4, zero := [.int .i32 0], kind := .int .i32 } := tiOk_mk info138 rfl rfl rfl (by decide) (Try.underlying138) (by decide) (fun h => absurd rfl h)
theorem info139 : (Try.prog.info? 139).map (fun i => (i.zero, i.size, i.bytes)) = some (some (.int .i32 0), 1, 4) := by kernel_rfl
theorem ti139 : TiOk Try.prog 139 { size := 1, bytes := 4, zero := [.int .i32 0], kind := .int .i32 } := tiOk_mk info139 rfl rfl rfl (by decide) (Try.underlying139) (by decide) (fun h => absurd rfl h)
theorem info140 : (Try.prog.info? 140).map (fun i => (i.zero, i.size, i.bytes)) = some (some (.agg #[.int .u64 0, .int .u64 0, .int .u32 0, .int .u8 0, .int .u8 0, .int .u8 0, .int .u8 0, .nilFunc, .pointer none, .int .i32 0, .int .i32 0]), 11, 48) := by kernel_rfl
theorem ti140 : TiOk Try.prog 140 { size := 11, bytes := 48, zero := [.int .u64 0, .int .u64 0, .int .u32 0, .int .u8 0, .int .u8 0, .int .u8 0, .int .u8 0, .nilFunc, .pointer none, .int .i32 0, .int .i32 0], kind := .struct [(0, 12), (1, 12), (2, 54), (3, 134), (4, 5), (5, 5), (6, 135), (7, 136), (8, 137), (9, 138), (10, 139)] } := tiOk_mk info140 rfl rfl rfl (by decide) (⟨_, Try.underlying140, rfl⟩) (by decide) (fun h => absurd rfl h)
theorem info141 : (Try.prog.info? 141).map (fun i => (i.zero, i.size, i.bytes)) = some (some (.agg #[.int .u64 0, .int .u64 0, .int .u32 0, .int .u8 0, .int .u8 0, .int .u8 0, .int .u8 0, .nilFunc, .pointer none, .int .i32 0, .int .i32 0]), 11, 48) := by kernel_rfl
theorem ti141 : TiOk Try.prog 141 { size := 11, bytes := 48, zero := [.int .u64 0, .int .u64 0, .int .u32 0, .int .u8 0, .int .u8 0, .int .u8 0, .int .u8 0, .nilFunc, .pointer none, .int .i32 0, .int .i32 0], kind := .struct [(0, 12), (1, 12), (2, 54), (3, 134), (4, 5), (5, 5), (6, 135), (7, 136), (8, 137), (9, 138), (10, 139)] } := tiOk_mk info141 rfl rfl rfl (by decide) (⟨_, Try.underlying141, rfl⟩) (by decide) (fun h => absurd rfl h)
def TB : Tab
  | 1 => some { size := 1, bytes := 8, zero := [.nilFunc], kind := .cell }
  | 2 => some { size := 1, bytes := 8, zero := [.int .i64 0], kind := .int .i64 }
  | 3 => some { size := 1, bytes := 8, zero := [.int .i64 0], kind := .int .i64 }
  | 4 => some { size := 1, bytes := 1, zero := [.bool false], kind := .bool }
  | 5 => some { size := 1, bytes := 1, zero := [.int .u8 0], kind := .int .u8 }
  | 6 => some { size := 1, bytes := 1, zero := [.int .u8 0], kind := .int .u8 }
  | 7 => some { size := 4, bytes := 24, zero := [.int .i64 0, .int .i64 0, .bool false, .int .u8 0], kind := .struct [(0, 2), (1, 3), (2, 4), (3, 6)] }
  | 8 => some { size := 4, bytes := 24, zero := [.int .i64 0, .int .i64 0, .bool false, .int .u8 0], kind := .struct [(0, 2), (1, 3), (2, 4), (3, 6)] }
  | 12 => some { size := 1, bytes := 8, zero := [.int .u64 0], kind := .int .u64 }
  | 15 => some { size := 1, bytes := 8, zero := [.pointer none], kind := .cell }
  | 16 => some { size := 1, bytes := 8, zero := [.pointer none], kind := .cell }
  | 17 => some { size := 1, bytes := 8, zero := [.pointer none], kind := .cell }
  | 18 => some { size := 1, bytes := 8, zero := [.pointer none], kind := .struct [(0, 17)] }
  | 19 => some { size := 1, bytes := 8, zero := [.pointer none], kind := .struct [(0, 17)] }
  | 21 => some { size := 1, bytes := 4, zero := [.int .i32 0], kind := .int .i32 }
  | 22 => some { size := 2, bytes := 16, zero := [.int .i64 0, .int .i64 0], kind := .struct [(0, 2), (1, 2)], eqk := [.i64, .i64] }
  | 23 => some { size := 2, bytes := 16, zero := [.int .i64 0, .int .i64 0], kind := .struct [(0, 2), (1, 2)], eqk := [.i64, .i64] }
  | 24 => some { size := 5, bytes := 40, zero := [.int .i64 0, .int .i64 0, .int .i64 0, .int .i64 0, .int .i64 0], kind := .struct [(0, 2), (1, 2), (2, 2), (3, 23)] }
  | 25 => some { size := 5, bytes := 40, zero := [.int .i64 0, .int .i64 0, .int .i64 0, .int .i64 0, .int .i64 0], kind := .struct [(0, 2), (1, 2), (2, 2), (3, 23)] }
  | 26 => some { size := 1, bytes := 24, zero := [.slice none 0 0], kind := .slice 2 }
  | 27 => some { size := 1, bytes := 8, zero := [.nilFunc], kind := .cell }
  | 28 => some { size := 1, bytes := 8, zero := [.nilFunc], kind := .cell }
  | 29 => some { size := 1, bytes := 8, zero := [.int .i64 0], kind := .int .i64 }
  | 31 => some { size := 1, bytes := 8, zero := [.nilFunc], kind := .cell }
  | 33 => some { size := 1, bytes := 8, zero := [.nilFunc], kind := .cell }
  | 34 => some { size := 1, bytes := 8, zero := [.nilFunc], kind := .cell }
  | 35 => some { size := 1, bytes := 8, zero := [.nilFunc], kind := .cell }
  | 36 => some { size := 1, bytes := 24, zero := [.slice none 0 0], kind := .slice 59 }
  | 37 => some { size := 1, bytes := 8, zero := [.nilFunc], kind := .cell }
  | 38 => some { size := 1, bytes := 8, zero := [.nilFunc], kind := .cell }
  | 39 => some { size := 1, bytes := 8, zero := [.nilFunc], kind := .cell }
  | 41 => some { size := 1, bytes := 8, zero := [.nilFunc], kind := .cell }
  | 43 => some { size := 1, bytes := 8, zero := [.nilFunc], kind := .cell }
  | 44 => some { size := 1, bytes := 8, zero := [.nilFunc], kind := .cell }
  | 45 => some { size := 1, bytes := 8, zero := [.nilFunc], kind := .cell }
  | 46 => some { size := 1, bytes := 8, zero := [.nilFunc], kind := .cell }
  | 47 => some { size := 1, bytes := 8, zero := [.nilFunc], kind := .cell }
  | 48 => some { size := 1, bytes := 8, zero := [.nilFunc], kind := .cell }
  | 49 => some { size := 1, bytes := 24, zero := [.slice none 0 0], kind := .slice 3 }
  | 51 => some { size := 1, bytes := 8, zero := [.nilFunc], kind := .cell }
  | 52 => some { size := 1, bytes := 8, zero := [.nilFunc], kind := .cell }
  | 53 => some { size := 1, bytes := 8, zero := [.nilFunc], kind := .cell }
  | 54 => some { size := 1, bytes := 4, zero := [.int .u32 0], kind := .int .u32 }
  | 55 => some { size := 1, bytes := 24, zero := [.slice none 0 0], kind := .slice 36 }
  | 56 => some { size := 1, bytes := 8, zero := [.nilFunc], kind := .cell }
  | 57 => some { size := 1, bytes := 8, zero := [.nilFunc], kind := .cell }
  | 58 => some { size := 2, bytes := 16, zero := [.int .i64 0, .int .i64 0], kind := .struct [(0, 2), (1, 3)], eqk := [.i64, .i64] }
  | 59 => some { size := 2, bytes := 16, zero := [.int .i64 0, .int .i64 0], kind := .struct [(0, 2), (1, 3)], eqk := [.i64, .i64] }
  | 60 => some { size := 1, bytes := 8, zero := [.nilFunc], kind := .cell }
  | 61 => some { size := 1, bytes := 8, zero := [.nilFunc], kind := .cell }
  | 62 => some { size := 2, bytes := 8, zero := [.int .u32 0, .int .u32 0], kind := .array 2 54 }
  | 63 => some { size := 1, bytes := 2, zero := [.int .u16 0], kind := .int .u16 }
  | 64 => some { size := 3, bytes := 6, zero := [.int .u16 0, .int .u16 0, .int .u16 0], kind := .array 3 63 }
  | 66 => some { size := 1, bytes := 8, zero := [.nilFunc], kind := .cell }
  | 67 => some { size := 1, bytes := 8, zero := [.nilFunc], kind := .cell }
  | 68 => some { size := 1, bytes := 24, zero := [.slice none 0 0], kind := .slice 25 }
  | 69 => some { size := 1, bytes := 8, zero := [.nilFunc], kind := .cell }
  | 70 => some { size := 1, bytes := 8, zero := [.nilFunc], kind := .cell }
  | 71 => some { size := 1, bytes := 8, zero := [.nilFunc], kind := .cell }
  | 72 => some { size := 1, bytes := 8, zero := [.nilFunc], kind := .cell }
  | 73 => some { size := 1, bytes := 8, zero := [.nilFunc], kind := .cell }
  | 74 => some { size := 1, bytes := 24, zero := [.slice none 0 0], kind := .slice 23 }
  | 75 => some { size := 1, bytes := 8, zero := [.nilFunc], kind := .cell }
  | 76 => some { size := 1, bytes := 8, zero := [.pointer none], kind := .cell }
  | 78 => some { size := 1, bytes := 8, zero := [.nilFunc], kind := .cell }
  | 79 => some { size := 1, bytes := 8, zero := [.nilFunc], kind := .cell }
  | 80 => some { size := 24, bytes := 192, zero := [.int .i64 0, .int .i64 0, .int .i64 0, .int .i64 0, .int .i64 0, .int .i64 0, .int .i64 0, .int .i64 0, .int .i64 0, .int .i64 0, .int .i64 0, .int .i64 0, .int .i64 0, .int .i64 0, .int .i64 0, .int .i64 0, .int .i64 0, .int .i64 0, .int .i64 0, .int .i64 0, .int .i64 0, .int .i64 0, .int .i64 0, .int .i64 0], kind := .array 12 23 }
  | 81 => some { size := 24, bytes := 192, zero := [.int .i64 0, .int .i64 0, .int .i64 0, .int .i64 0, .int .i64 0, .int .i64 0, .int .i64 0, .int .i64 0, .int .i64 0, .int .i64 0, .int .i64 0, .int .i64 0, .int .i64 0, .int .i64 0, .int .i64 0, .int .i64 0, .int .i64 0, .int .i64 0, .int .i64 0, .int .i64 0, .int .i64 0, .int .i64 0, .int .i64 0, .int .i64 0], kind := .array 12 23 }
  | 82 => some { size := 30, bytes := 256, zero := [.int .i64 0, .int .i64 0, .int .i64 0, .int .i64 0, .int .i64 0, .slice none 0 0, .int .i64 0, .int .i64 0, .int .i64 0, .int .i64 0, .int .i64 0, .int .i64 0, .int .i64 0, .int .i64 0, .int .i64 0, .int .i64 0, .int .i64 0, .int .i64 0, .int .i64 0, .int .i64 0, .int .i64 0, .int .i64 0, .int .i64 0, .int .i64 0, .int .i64 0, .int .i64 0, .int .i64 0, .int .i64 0, .int .i64 0, .int .i64 0], kind := .struct [(0, 25), (5, 26), (6, 81)] }
  | 83 => some { size := 30, bytes := 256, zero := [.int .i64 0, .int .i64 0, .int .i64 0, .int .i64 0, .int .i64 0, .slice none 0 0, .int .i64 0, .int .i64 0, .int .i64 0, .int .i64 0, .int .i64 0, .int .i64 0, .int .i64 0, .int .i64 0, .int .i64 0, .int .i64 0, .int .i64 0, .int .i64 0, .int .i64 0, .int .i64 0, .int .i64 0, .int .i64 0, .int .i64 0, .int .i64 0, .int .i64 0, .int .i64 0, .int .i64 0, .int .i64 0, .int .i64 0, .int .i64 0], kind := .struct [(0, 25), (5, 26), (6, 81)] }
  | 84 => some { size := 1, bytes := 8, zero := [.nilFunc], kind := .cell }
  | 86 => some { size := 1, bytes := 8, zero := [.nilFunc], kind := .cell }
  | 87 => some { size := 1, bytes := 8, zero := [.nilFunc], kind := .cell }
  | 88 => some { size := 1, bytes := 8, zero := [.nilFunc], kind := .cell }
  | 89 => some { size := 1, bytes := 8, zero := [.nilFunc], kind := .cell }
  | 90 => some { size := 1, bytes := 8, zero := [.nilFunc], kind := .cell }
  | 91 => some { size := 1, bytes := 8, zero := [.nilFunc], kind := .cell }
  | 92 => some { size := 1, bytes := 8, zero := [.nilFunc], kind := .cell }
  | 93 => some { size := 1, bytes := 8, zero := [.nilFunc], kind := .cell }
  | 94 => some { size := 1, bytes := 8, zero := [.nilFunc], kind := .cell }
  | 95 => some { size := 1, bytes := 8, zero := [.nilFunc], kind := .cell }
  | 96 => some { size := 1, bytes := 8, zero := [.nilFunc], kind := .cell }
  | 97 => some { size := 1, bytes := 8, zero := [.nilFunc], kind := .cell }
  | 98 => some { size := 1, bytes := 8, zero := [.nilFunc], kind := .cell }
  | 99 => some { size := 1, bytes := 8, zero := [.nilFunc], kind := .cell }
  | 100 => some { size := 1, bytes := 8, zero := [.nilFunc], kind := .cell }
  | 102 => some { size := 1, bytes := 8, zero := [.nilFunc], kind := .cell }
  | 103 => some { size := 1, bytes := 8, zero := [.nilFunc], kind := .cell }
  | 104 => some { size := 1, bytes := 8, zero := [.nilFunc], kind := .cell }
  | 105 => some { size := 1, bytes := 8, zero := [.nilFunc], kind := .cell }
  | 106 => some { size := 1, bytes := 8, zero := [.nilFunc], kind := .cell }
  | 107 => some { size := 1, bytes := 8, zero := [.nilFunc], kind := .cell }
  | 108 => some { size := 1, bytes := 8, zero := [.nilFunc], kind := .cell }
  | 109 => some { size := 1, bytes := 8, zero := [.nilFunc], kind := .cell }
  | 110 => some { size := 1, bytes := 8, zero := [.nilFunc], kind := .cell }
  | 111 => some { size := 1, bytes := 8, zero := [.nilFunc], kind := .cell }
  | 112 => some { size := 1, bytes := 8, zero := [.nilFunc], kind := .cell }
  | 113 => some { size := 1, bytes := 8, zero := [.nilFunc], kind := .cell }
  | 114 => some { size := 1, bytes := 8, zero := [.nilFunc], kind := .cell }
  | 115 => some { size := 1, bytes := 8, zero := [.map none], kind := .cell }
  | 116 => some { size := 1, bytes := 8, zero := [.nilFunc], kind := .cell }
  | 117 => some { size := 1, bytes := 8, zero := [.nilFunc], kind := .cell }
  | 118 => some { size := 1, bytes := 8, zero := [.nilFunc], kind := .cell }
  | 119 => some { size := 1, bytes := 8, zero := [.nilFunc], kind := .cell }
  | 120 => some { size := 1, bytes := 8, zero := [.nilFunc], kind := .cell }
  | 121 => some { size := 1, bytes := 8, zero := [.nilFunc], kind := .cell }
  | 122 => some { size := 1, bytes := 8, zero := [.nilFunc], kind := .cell }
  | 123 => some { size := 1, bytes := 8, zero := [.nilFunc], kind := .cell }
  | 124 => some { size := 12, bytes := 12, zero := [.bool false, .bool false, .bool false, .bool false, .bool false, .bool false, .bool false, .bool false, .bool false, .bool false, .bool false, .bool false], kind := .array 12 4 }
  | 125 => some { size := 1, bytes := 24, zero := [.slice none 0 0], kind := .slice 4 }
  | 126 => some { size := 1, bytes := 8, zero := [.nilFunc], kind := .cell }
  | 127 => some { size := 1, bytes := 8, zero := [.nilFunc], kind := .cell }
  | 133 => some { size := 1, bytes := 8, zero := [.nilFunc], kind := .cell }
  | 134 => some { size := 1, bytes := 1, zero := [.int .u8 0], kind := .int .u8 }
  | 135 => some { size := 1, bytes := 1, zero := [.int .u8 0], kind := .int .u8 }
  | 136 => some { size := 1, bytes := 8, zero := [.nilFunc], kind := .cell }
  | 137 => some { size := 1, bytes := 8, zero := [.pointer none], kind := .cell }
  | 138 => some { size := 1, bytes := 4, zero := [.int .i32 0], kind := .int .i32 }
  | 139 => some { size := 1, bytes := 4, zero := [.int .i32 0], kind := .int .i32 }
  | 140 => some { size := 11, bytes := 48, zero := [.int .u64 0, .int .u64 0, .int .u32 0, .int .u8 0, .int .u8 0, .int .u8 0, .int .u8 0, .nilFunc, .pointer none, .int .i32 0, .int .i32 0], kind := .struct [(0, 12), (1, 12), (2, 54), (3, 134), (4, 5), (5, 5), (6, 135), (7, 136), (8, 137), (9, 138), (10, 139)] }
  | 141 => some { size := 11, bytes := 48, zero := [.int .u64 0, .int .u64 0, .int .u32 0, .int .u8 0, .int .u8 0, .int .u8 0, .int .u8 0, .nilFunc, .pointer none, .int .i32 0, .int .i32 0], kind := .struct [(0, 12), (1, 12), (2, 54), (3, 134), (4, 5), (5, 5), (6, 135), (7, 136), (8, 137), (9, 138), (10, 139)] }
  | _ => none
@[simp] theorem TB1 : TB 1 = some { size := 1, bytes := 8, zero := [.nilFunc], kind := .cell } := rfl
@[simp] theorem TB2 : TB 2 = some { size := 1, bytes := 8, zero := [.int .i64 0], kind := .int .i64 } := rfl
@[simp] theorem TB3 : TB 3 = some { size := 1, bytes := 8, zero := [.int .i64 0], kind := .int .i64 } := rfl
@[simp] theorem TB4 : TB 4 = some { size := 1, bytes := 1, zero := [.bool false], kind := .bool } := rfl
@[simp] theorem TB5 : TB 5 = some { size := 1, bytes := 1, zero := [.int .u8 0], kind := .int .u8 } := rfl
@[simp] theorem TB6 : TB 6 = some { size := 1, bytes := 1, zero := [.int .u8 0], kind := .int .u8 } := rfl
@[simp] theorem TB7 : TB 7 = some { size := 4, bytes := 24, zero := [.int .i64 0, .int .i64 0, .bool false, .int .u8 0], kind := .struct [(0, 2), (1, 3), (2, 4), (3, 6)] } := rfl
@[simp] theorem TB8 : TB 8 = some { size := 4, bytes := 24, zero := [.int .i64 0, .int .i64 0, .bool false, .int .u8 0], kind := .struct [(0, 2), (1, 3), (2, 4), (3, 6)] } := rfl
@[simp] theorem TB12 : TB 12 = some { size := 1, bytes := 8, zero := [.int .u64 0], kind := .int .u64 } := rfl
@[simp] theorem TB15 : TB 15 = some { size := 1, bytes := 8, zero := [.pointer none], kind := .cell } := rfl
@[simp] theorem TB16 : TB 16 = some { size := 1, bytes := 8, zero := [.pointer none], kind := .cell } := rfl
@[simp] theorem TB17 : TB 17 = some { size := 1, bytes := 8, zero := [.pointer none], kind := .cell } := rfl
@[simp] theorem TB18 : TB 18 = some { size := 1, bytes := 8, zero := [.pointer none], kind := .struct [(0, 17)] } := rfl
@[simp] theorem TB19 : TB 19 = some { size := 1, bytes := 8, zero := [.pointer none], kind := .struct [(0, 17)] } := rfl
@[simp] theorem TB21 : TB 21 = some { size := 1, bytes := 4, zero := [.int .i32 0], kind := .int .i32 } := rfl
@[simp] theorem TB22 : TB 22 = some { size := 2, bytes := 16, zero := [.int .i64 0, .int .i64 0], kind := .struct [(0, 2), (1, 2)], eqk := [.i64, .i64] } := rfl
@[simp] theorem TB23 : TB 23 = some { size := 2, bytes := 16, zero := [.int .i64 0, .int .i64 0], kind := .struct [(0, 2), (1, 2)], eqk := [.i64, .i64] } := rfl
@[simp] theorem TB24 : TB 24 = some { size := 5, bytes := 40, zero := [.int .i64 0, .int .i64 0, .int .i64 0, .int .i64 0, .int .i64 0], kind := .struct [(0, 2), (1, 2), (2, 2), (3, 23)] } := rfl
@[simp] theorem TB25 : TB 25 = some { size := 5, bytes := 40, zero := [.int .i64 0, .int .i64 0, .int .i64 0, .int .i64 0, .int .i64 0], kind := .struct [(0, 2), (1, 2), (2, 2), (3, 23)] } := rfl
@[simp] theorem TB26 : TB 26 = some { size := 1, bytes := 24, zero := [.slice none 0 0], kind := .slice 2 } := rfl
@[simp] theorem TB27 : TB 27 = some { size := 1, bytes := 8, zero := [.nilFunc], kind := .cell } := rfl
@[simp] theorem TB28 : TB 28 = some { size := 1, bytes := 8, zero := [.nilFunc], kind := .cell } := rfl
@[simp] theorem TB29 : TB 29 = some { size := 1, bytes := 8, zero := [.int .i64 0], kind := .int .i64 } := rfl
@[simp] theorem TB31 : TB 31 = some { size := 1, bytes := 8, zero := [.nilFunc], kind := .cell } := rfl
@[simp] theorem TB33 : TB 33 = some { size := 1, bytes := 8, zero := [.nilFunc], kind := .cell } := rfl
@[simp] theorem TB34 : TB 34 = some { size := 1, bytes := 8, zero := [.nilFunc], kind := .cell } := rfl
@[simp] theorem TB35 : TB 35 = some { size := 1, bytes := 8, zero := [.nilFunc], kind := .cell } := rfl
@[simp] theorem TB36 : TB 36 = some { size := 1, bytes := 24, zero := [.slice none 0 0], kind := .slice 59 } := rfl
@[simp] theorem TB37 : TB 37 = some { size := 1, bytes := 8, zero := [.nilFunc], kind := .cell } := rfl
@[simp] theorem TB38 : TB 38 = some { size := 1, bytes := 8, zero := [.nilFunc], kind := .cell } := rfl
@[simp] theorem TB39 : TB 39 = some { size := 1, bytes := 8, zero := [.nilFunc], kind := .cell } := rfl
@[simp] theorem TB41 : TB 41 = some { size := 1, bytes := 8, zero := [.nilFunc], kind := .cell } := rfl
@[simp] theorem TB43 : TB 43 = some { size := 1, bytes := 8, zero := [.nilFunc], kind := .cell } := rfl
@[simp] theorem TB44 : TB 44 = some { size := 1, bytes := 8, zero := [.nilFunc], kind := .cell } := rfl
@[simp] theorem TB45 : TB 45 = some { size := 1, bytes := 8, zero := [.nilFunc], kind := .cell } := rfl
@[simp] theorem TB46 : TB 46 = some { size := 1, bytes := 8, zero := [.nilFunc], kind := .cell } := rfl
@[simp] theorem TB47 : TB 47 = some { size := 1, bytes := 8, zero := [.nilFunc], kind := .cell } := rfl
@[simp] theorem TB48 : TB 48 = some { size := 1, bytes := 8, zero := [.nilFunc], kind := .cell } := rfl
@[simp] theorem TB49 : TB 49 = some { size := 1, bytes := 24, zero := [.slice none 0 0], kind := .slice 3 } := rfl
@[simp] theorem TB51 : TB 51 = some { size := 1, bytes := 8, zero := [.nilFunc], kind := .cell } := rfl
@[simp] theorem TB52 : TB 52 = some { size := 1, bytes := 8, zero := [.nilFunc], kind := .cell } := rfl
@[simp] theorem TB53 : TB 53 = some { size := 1, bytes := 8, zero := [.nilFunc], kind := .cell } := rfl
@[simp] theorem TB54 : TB 54 = some { size := 1, bytes := 4, zero := [.int .u32 0], kind := .int .u32 } := rfl
@[simp] theorem TB55 : TB 55 = some { size := 1, bytes := 24, zero := [.slice none 0 0], kind := .slice 36 } := rfl
@[simp] theorem TB56 : TB 56 = some { size := 1, bytes := 8, zero := [.nilFunc], kind := .cell } := rfl
@[simp] theorem TB57 : TB 57 = some { size := 1, bytes := 8, zero := [.nilFunc], kind := .cell } := rfl
@[simp] theorem TB58 : TB 58 = some { size := 2, bytes := 16, zero := [.int .i64 0, .int .i64 0], kind := .struct [(0, 2), (1, 3)], eqk := [.i64, .i64] } := rfl
@[simp] theorem TB59 : TB 59 = some { size := 2, bytes := 16, zero := [.int .i64 0, .int .i64 0], kind := .struct [(0, 2), (1, 3)], eqk := [.i64, .i64] } := rfl
@[simp] theorem TB60 : TB 60 = some { size := 1, bytes := 8, zero := [.nilFunc], kind := .cell } := rfl
@[simp] theorem TB61 : TB 61 = some { size := 1, bytes := 8, zero := [.nilFunc], kind := .cell } := rfl
@[simp] theorem TB62 : TB 62 = some { size := 2, bytes := 8, zero := [.int .u32 0, .int .u32 0], kind := .array 2 54 } := rfl
@[simp] theorem TB63 : TB 63 = some { size := 1, bytes := 2, zero := [.int .u16 0], kind := .int .u16 } := rfl
@[simp] theorem TB64 : TB 64 = some { size := 3, bytes := 6, zero := [.int .u16 0, .int .u16 0, .int .u16 0], kind := .array 3 63 } := rfl
@[simp] theorem TB66 : TB 66 = some { size := 1, bytes := 8, zero := [.nilFunc], kind := .cell } := rfl
@[simp] theorem TB67 : TB 67 = some { size := 1, bytes := 8, zero := [.nilFunc], kind := .cell } := rfl
@[simp] theorem TB68 : TB 68 = some { size := 1, bytes := 24, zero := [.slice none 0 0], kind := .slice 25 } := rfl
@[simp] theorem TB69 : TB 69 = some { size := 1, bytes := 8, zero := [.nilFunc], kind := .cell } := rfl
@[simp] theorem TB70 : TB 70 = some { size := 1, bytes := 8, zero := [.nilFunc], kind := .cell } := rfl
@[simp] theorem TB71 : TB 71 = some { size := 1, bytes := 8, zero := [.nilFunc], kind := .cell } := rfl
@[simp] theorem TB72 : TB 72 = some { size := 1, bytes := 8, zero := [.nilFunc], kind := .cell } := rfl
@[simp] theorem TB73 : TB 73 = some { size := 1, bytes := 8, zero := [.nilFunc], kind := .cell } := rfl
@[simp] theorem TB74 : TB 74 = some { size := 1, bytes := 24, zero := [.slice none 0 0], kind := .slice 23 } := rfl
@[simp] theorem TB75 : TB 75 = some { size := 1, bytes := 8, zero := [.nilFunc], kind := .cell } := rfl
@[simp] theorem TB76 : TB 76 = some { size := 1, bytes := 8, zero := [.pointer none], kind := .cell } := rfl
@[simp] theorem TB78 : TB 78 = some { size := 1, bytes := 8, zero := [.nilFunc], kind := .cell } := rfl
@[simp] theorem TB79 : TB 79 = some { size := 1, bytes := 8, zero := [.nilFunc], kind := .cell } := rfl
@[simp] theorem TB80 : TB 80 = some { size := 24, bytes := 192, zero := [.int .i64 0, .int .i64 0, .int .i64 0, .int .i64 0, .int .i64 0, .int .i64 0, .int .i64 0, .int .i64 0, .int .i64 0, .int .i64 0, .int .i64 0, .int .i64 0, .int .i64 0, .int .i64 0, .int .i64 0, .int .i64 0, .int .i64 0, .int .i64 0, .int .i64 0, .int .i64 0, .int .i64 0, .int .i64 0, .int .i64 0, .int .i64 0], kind := .array 12 23 } := rfl
@[simp] theorem TB81 : TB 81 = some { size := 24, bytes := 192, zero := [.int .i64 0, .int .i64 0, .int .i64 0, .int .i64 0, .int .i64 0, .int .i64 0, .int .i64 0, .int .i64 0, .int .i64 0, .int .i64 0, .int .i64 0, .int .i64 0, .int .i64 0, .int .i64 0, .int .i64 0, .int .i64 0, .int .i64 0, .int .i64 0, .int .i64 0, .int .i64 0, .int .i64 0, .int .i64 0, .int .i64 0, .int .i64 0], kind := .array 12 23 } := rfl
@[simp] theorem TB82 : TB 82 = some { size := 30, bytes := 256, zero := [.int .i64 0, .int .i64 0, .int .i64 0, .int .i64 0, .int .i64 0, .slice none 0 0, .int .i64 0, .int .i64 0, .int .i64 0, .int .i64 0, .int .i64 0, .int .i64 0, .int .i64 0, .int .i64 0, .int .i64 0, .int .i64 0, .int .i64 0, .int .i64 0, .int .i64 0, .int .i64 0, .int .i64 0, .int .i64 0, .int .i64 0, .int .i64 0, .int .i64 0, .int .i64 0, .int .i64 0, .int .i64 0, .int .i64 0, .int .i64 0], kind := .struct [(0, 25), (5, 26), (6, 81)] } := rfl
@[simp] theorem TB83 : TB 83 = some { size := 30, bytes := 256, zero := [.int .i64 0, .int .i64 0, .int .i64 0, .int .i64 0, .int .i64 0, .slice none 0 0, .int .i64 0, .int .i64 0, .int .i64 0, .int .i64 0, .int .i64 0, .int .i64 0, .int .i64 0, .int .i64 0, .int .i64 0, .int .i64 0, .int .i64 0, .int .i64 0, .int .i64 0, .int .i64 0, .int .i64 0, .int .i64 0, .int .i64 0, .int .i64 0, .int .i64 0, .int .i64 0, .int .i64 0, .int .i64 0, .int .i64 0, .int .i64 0], kind := .struct [(0, 25), (5, 26), (6, 81)] } := rfl
@[simp] theorem TB84 : TB 84 = some { size := 1, bytes := 8, zero := [.nilFunc], kind := .cell } := rfl
@[simp] theorem TB86 : TB 86 = some { size := 1, bytes := 8, zero := [.nilFunc], kind := .cell } := rfl
@[simp] theorem TB87 : TB 87 = some { size := 1, bytes := 8, zero := [.nilFunc], kind := .cell } := rfl
@[simp] theorem TB88 : TB 88 = some { size := 1, bytes := 8, zero := [.nilFunc], kind := .cell } := rfl
@[simp] theorem TB89 : TB 89 = some { size := 1, bytes := 8, zero := [.nilFunc], kind := .cell } := rfl
@[simp] theorem TB90 : TB 90 = some { size := 1, bytes := 8, zero := [.nilFunc], kind := .cell } := rfl
@[simp] theorem TB91 : TB 91 = some { size := 1, bytes := 8, zero := [.nilFunc], kind := .cell } := rfl
@[simp] theorem TB92 : TB 92 = some { size := 1, bytes := 8, zero := [.nilFunc], kind := .cell } := rfl
@[simp] theorem TB93 : TB 93 = some { size := 1, bytes := 8, zero := [.nilFunc], kind := .cell } := rfl
@[simp] theorem TB94 : TB 94 = some { size := 1, bytes := 8, zero := [.nilFunc], kind := .cell } := rfl
@[simp] theorem TB95 : TB 95 = some { size := 1, bytes := 8, zero := [.nilFunc], kind := .cell } := rfl
@[simp] theorem TB96 : TB 96 = some { size := 1, bytes := 8, zero := [.nilFunc], kind := .cell } := rfl
@[simp] theorem TB97 : TB 97 = some { size := 1, bytes := 8, zero := [.nilFunc], kind := .cell } := rfl
@[simp] theorem TB98 : TB 98 = some { size := 1, bytes := 8, zero := [.nilFunc], kind := .cell } := rfl
@[simp] theorem TB99 : TB 99 = some { size := 1, bytes := 8, zero := [.nilFunc], kind := .cell } := rfl
@[simp] theorem TB100 : TB 100 = some { size := 1, bytes := 8, zero := [.nilFunc], kind := .cell } := rfl
@[simp] theorem TB102 : TB 102 = some { size := 1, bytes := 8, zero := [.nilFunc], kind := .cell } := rfl
@[simp] theorem TB103 : TB 103 = some { size := 1, bytes := 8, zero := [.nilFunc], kind := .cell } := rfl
@[simp] theorem TB104 : TB 104 = some { size := 1, bytes := 8, zero := [.nilFunc], kind := .cell } := rfl
@[simp] theorem TB105 : TB 105 = some { size := 1, bytes := 8, zero := [.nilFunc], kind := .cell } := rfl
@[simp] theorem TB106 : TB 106 = some { size := 1, bytes := 8, zero := [.nilFunc], kind := .cell } := rfl
@[simp] theorem TB107 : TB 107 = some { size := 1, bytes := 8, zero := [.nilFunc], kind := .cell } := rfl
@[simp] theorem TB108 : TB 108 = some { size := 1, bytes := 8, zero := [.nilFunc], kind := .cell } := rfl
@[simp] theorem TB109 : TB 109 = some { size := 1, bytes := 8, zero := [.nilFunc], kind := .cell } := rfl
@[simp] theorem TB110 : TB 110 = some { size := 1, bytes := 8, zero := [.nilFunc], kind := .cell } := rfl
@[simp] theorem TB111 : TB 111 = some { size := 1, bytes := 8, zero := [.nilFunc], kind := .cell } := rfl
@[simp] theorem TB112 : TB 112 = some { size := 1, bytes := 8, zero := [.nilFunc], kind := .cell } := rfl
@[simp] theorem TB113 : TB 113 = some { size := 1, bytes := 8, zero := [.nilFunc], kind := .cell } := rfl
@[simp] theorem TB114 : TB 114 = some { size := 1, bytes := 8, zero := [.nilFunc], kind := .cell } := rfl
@[simp] theorem TB115 : TB 115 = some { size := 1, bytes := 8, zero := [.map none], kind := .cell } := rfl
@[simp] theorem TB116 : TB 116 = some { size := 1, bytes := 8, zero := [.nilFunc], kind := .cell } := rfl
@[simp] theorem TB117 : TB 117 = some { size := 1, bytes := 8, zero := [.nilFunc], kind := .cell } := rfl
@[simp] theorem TB118 : TB 118 = some { size := 1, bytes := 8, zero := [.nilFunc], kind := .cell } := rfl
@[simp] theorem TB119 : TB 119 = some { size := 1, bytes := 8, zero := [.nilFunc], kind := .cell } := rfl
@[simp] theorem TB120 : TB 120 = some { size := 1, bytes := 8, zero := [.nilFunc], kind := .cell } := rfl
@[simp] theorem TB121 : TB 121 = some { size := 1, bytes := 8, zero := [.nilFunc], kind := .cell } := rfl
@[simp] theorem TB122 : TB 122 = some { size := 1, bytes := 8, zero := [.nilFunc], kind := .cell } := rfl
@[simp] theorem TB123 : TB 123 = some { size := 1, bytes := 8, zero := [.nilFunc], kind := .cell } := rfl
@[simp] theorem TB124 : TB 124 = some { size := 12, bytes := 12, zero := [.bool false, .bool false, .bool false, .bool false, .bool false, .bool false, .bool false, .bool false, .bool false, .bool false, .bool false, .bool false], kind := .array 12 4 } := rfl
@[simp] theorem TB125 : TB 125 = some { size := 1, bytes := 24, zero := [.slice none 0 0], kind := .slice 4 } := rfl
@[simp] theorem TB126 : TB 126 = some { size := 1, bytes := 8, zero := [.nilFunc], kind := .cell } := rfl
@[simp] theorem TB127 : TB 127 = some { size := 1, bytes := 8, zero := [.nilFunc], kind := .cell } := rfl
@[simp] theorem TB133 : TB 133 = some { size := 1, bytes := 8, zero := [.nilFunc], kind := .cell } := rfl
@[simp] theorem TB134 : TB 134 = some { size := 1, bytes := 1, zero := [.int .u8 0], kind := .int .u8 } := rfl
@[simp] theorem TB135 : TB 135 = some { size := 1, bytes := 1, zero := [.int .u8 0], kind := .int .u8 } := rfl
@[simp] theorem TB136 : TB 136 = some { size := 1, bytes := 8, zero := [.nilFunc], kind := .cell } := rfl
@[simp] theorem TB137 : TB 137 = some { size := 1, bytes := 8, zero := [.pointer none], kind := .cell } := rfl
@[simp] theorem TB138 : TB 138 = some { size := 1, bytes := 4, zero := [.int .i32 0], kind := .int .i32 } := rfl
@[simp] theorem TB139 : TB 139 = some { size := 1, bytes := 4, zero := [.int .i32 0], kind := .int .i32 } := rfl
@[simp] theorem TB140 : TB 140 = some { size := 11, bytes := 48, zero := [.int .u64 0, .int .u64 0, .int .u32 0, .int .u8 0, .int .u8 0, .int .u8 0, .int .u8 0, .nilFunc, .pointer none, .int .i32 0, .int .i32 0], kind := .struct [(0, 12), (1, 12), (2, 54), (3, 134), (4, 5), (5, 5), (6, 135), (7, 136), (8, 137), (9, 138), (10, 139)] } := rfl
@[simp] theorem TB141 : TB 141 = some { size := 11, bytes := 48, zero := [.int .u64 0, .int .u64 0, .int .u32 0, .int .u8 0, .int .u8 0, .int .u8 0, .int .u8 0, .nilFunc, .pointer none, .int .i32 0, .int .i32 0], kind := .struct [(0, 12), (1, 12), (2, 54), (3, 134), (4, 5), (5, 5), (6, 135), (7, 136), (8, 137), (9, 138), (10, 139)] } := rfl
set_option maxRecDepth 20000 in
set_option maxHeartbeats 4000000 in
theorem tabOk : TabOk Try.prog TB := by
  intro t i h
  unfold TB at h
  split at h <;> first
    | (cases h; exact ti1)
    | (cases h; exact ti2)
    | (cases h; exact ti3)
    | (cases h; exact ti4)
    | (cases h; exact ti5)
    | (cases h; exact ti6)
    | (cases h; exact ti7)
    | (cases h; exact ti8)
    | (cases h; exact ti12)
    | (cases h; exact ti15)
    | (cases h; exact ti16)
    | (cases h; exact ti17)
    | (cases h; exact ti18)
    | (cases h; exact ti19)
    | (cases h; exact ti21)
    | (cases h; exact ti22)
    | (cases h; exact ti23)
    | (cases h; exact ti24)
    | (cases h; exact ti25)
    | (cases h; exact ti26)
    | (cases h; exact ti27)
    | (cases h; exact ti28)
    | (cases h; exact ti29)
    | (cases h; exact ti31)
    | (cases h; exact ti33)
    | (cases h; exact ti34)
    | (cases h; exact ti35)
    | (cases h; exact ti36)
    | (cases h; exact ti37)
    | (cases h; exact ti38)
    | (cases h; exact ti39)
    | (cases h; exact ti41)
    | (cases h; exact ti43)
    | (cases h; exact ti44)
    | (cases h; exact ti45)
    | (cases h; exact ti46)
    | (cases h; exact ti47)
    | (cases h; exact ti48)
    | (cases h; exact ti49)
    | (cases h; exact ti51)
    | (cases h; exact ti52)
    | (cases h; exact ti53)
    | (cases h; exact ti54)
    | (cases h; exact ti55)
    | (cases h; exact ti56)
    | (cases h; exact ti57)
    | (cases h; exact ti58)
    | (cases h; exact ti59)
    | (cases h; exact ti60)
    | (cases h; exact ti61)
    | (cases h; exact ti62)
    | (cases h; exact ti63)
    | (cases h; exact ti64)
    | (cases h; exact ti66)
    | (cases h; exact ti67)
    | (cases h; exact ti68)
    | (cases h; exact ti69)
    | (cases h; exact ti70)
    | (cases h; exact ti71)
    | (cases h; exact ti72)
    | (cases h; exact ti73)
    | (cases h; exact ti74)
    | (cases h; exact ti75)
    | (cases h; exact ti76)
    | (cases h; exact ti78)
    | (cases h; exact ti79)
    | (cases h; exact ti80)
    | (cases h; exact ti81)
    | (cases h; exact ti82)
    | (cases h; exact ti83)
    | (cases h; exact ti84)
    | (cases h; exact ti86)
    | (cases h; exact ti87)
    | (cases h; exact ti88)
    | (cases h; exact ti89)
    | (cases h; exact ti90)
    | (cases h; exact ti91)
    | (cases h; exact ti92)
    | (cases h; exact ti93)
    | (cases h; exact ti94)
    | (cases h; exact ti95)
    | (cases h; exact ti96)
    | (cases h; exact ti97)
    | (cases h; exact ti98)
    | (cases h; exact ti99)
    | (cases h; exact ti100)
    | (cases h; exact ti102)
    | (cases h; exact ti103)
    | (cases h; exact ti104)
    | (cases h; exact ti105)
    | (cases h; exact ti106)
    | (cases h; exact ti107)
    | (cases h; exact ti108)
    | (cases h; exact ti109)
    | (cases h; exact ti110)
    | (cases h; exact ti111)
    | (cases h; exact ti112)
    | (cases h; exact ti113)
    | (cases h; exact ti114)
    | (cases h; exact ti115)
    | (cases h; exact ti116)
    | (cases h; exact ti117)
    | (cases h; exact ti118)
    | (cases h; exact ti119)
    | (cases h; exact ti120)
    | (cases h; exact ti121)
    | (cases h; exact ti122)
    | (cases h; exact ti123)
    | (cases h; exact ti124)
    | (cases h; exact ti125)
    | (cases h; exact ti126)
    | (cases h; exact ti127)
    | (cases h; exact ti133)
    | (cases h; exact ti134)
    | (cases h; exact ti135)
    | (cases h; exact ti136)
    | (cases h; exact ti137)
    | (cases h; exact ti138)
    | (cases h; exact ti139)
    | (cases h; exact ti140)
    | (cases h; exact ti141)
    | cases h
end Go.Proofs.Ytlbkofidcpkphaa.Eng

/-
  The runner for package rim: its maps, its arrays.
-/
noncomputable section
namespace Go.Proofs.Ytlbkofidcpkphaa.Eng
open Go.RowKit
set_option maxRecDepth 100000
def ZT : ZTab := fun _ => none
def QT : QTab := fun t => if t = 81 then some ⟨[.int .i64, .int .i64], 24⟩ else none
def MT : MTab := fun t => if t = 115 then some ⟨3, 2, .d (.val (.int .i64 0)), false, [.i64]⟩ else none
theorem noGor : NoGor Try.prog := noGor_of (by decide +kernel)
theorem mixed : Try.prog.follows .mixedOrders = true := by decide +kernel
theorem ztOk : ZTabOk TB ZT := fun t p h => by cases h
theorem qtOk : QTabOk Try.prog QT := fun t b h => by
  unfold QT at h
  split at h
  · rename_i e
    subst e
    cases h
    refine ⟨?_, by decide +kernel, by decide +kernel, fun xs hx => ?_⟩
    · have he : KL Try.prog 6 23 [.int .i64, .int .i64] 2 := kl_struct2 (d := 5) Try.underlying23 (by decide +kernel) (kl_int Try.underlying2 4) (kl_int Try.underlying2 4) (by decide) (by decide) rfl rfl (by decide +kernel) (by decide +kernel)
      exact kl_array (n := 12) (d := 6) (per := [.int .i64, .int .i64]) Try.underlying81 (by decide +kernel) (by decide +kernel) he
    · have e1 : Try.prog.cellsOf 81 = 24 := by decide +kernel
      simp [Value.formed, Try.underlying81, e1, hx]
  · cases h
theorem mtOk : MTabOk Try.prog MT := fun t i h => by
  unfold MT at h
  split at h
  · rename_i e
    subst e
    cases h
    refine mapOk_int (q := .i64) Try.underlying115 Try.underlying3 rfl rfl ⟨.int .i64 0, fun w => ?_, fun E w => rep_val rfl⟩
    have h := info2
    rw [Option.map_eq_some_iff] at h
    obtain ⟨inf, h1, h2⟩ := h
    simp only [Prod.mk.injEq] at h2
    simp [zeroValue, typeInfo, h1, h2.1]
  · cases h
end Go.Proofs.Ytlbkofidcpkphaa.Eng

/-
  Layer 3: package rim, pulleys that are not met again are left out, whatever the order in which they are looked at.
-/
namespace Go.Proofs.Ytlbkofidcpkphaa.Eng
open Go.RowKit

def mi : MapI := ⟨3, 2, .d (.val (.int .i64 0)), false, [.i64]⟩
set_option maxRecDepth 100000 in
set_option maxHeartbeats 4000000 in
theorem least_w {m : Mem} {wid : Nat} {cells : List SV} {f : Bool} {p : Nat} {lo : Int} (hm : m wid = some (.box 83 cells f)) (hc : cells[6 + p * 2]? = some (.d (iD lo))) (hp : p < 12) (n : Nat) :
    CWp Try.prog 68 [.ptr wid 0 0, .d (iD p)] n m fun y n' m' => n ≤ n' ∧ n' ≤ n + 20 ∧ y = .d (iD lo) ∧ m' = m := by
  have hl : 6 + p * 2 < cells.length := (List.getElem?_eq_some_iff.1 hc).1
  have g1 : List.take 1 (List.drop (6 + p * 2) cells) = [.d (iD lo)] := by
    rw [List.drop_eq_getElem_cons hl, List.take_succ_cons, List.take_zero]
    rw [List.getElem?_eq_getElem hl] at hc
    rw [Option.some.inj hc]
  have g2 : 6 + p * 2 + 1 ≤ cells.length := by omega
  have g3 : (p : Int) < 12 := by omega
  refine cwpK tabOk Try.func68 rfl rfl (show 2 ≤ _ by decide) rfl fun _ => ?_; simp only [Try.ntmps68]
  repeat (first | (with_reducible first | refine AWi.seqK fun _ => ?_ | refine AWi.blockK fun _ => ?_ | refine KI.go ?_) | ((first | refine AWi.region tabOk ?_ | refine AWi.condK fun _ _ => ?_ | refine AWi.draws tabOk rfl (by kernel_rfl) (by kernel_rfl) ?_); simp [-getElem?_pos, z0, z1, z2, hm, g1, g2, g3]) | ((first | refine AWi.ret ?_ | refine AWi.skip ?_ | refine AWi.exit ?_); try simp only [thenP]) | (with_reducible refine BB.go ?_; simp only [blockP, thenP, reduceIte]) | (with_reducible refine And.intro (okLog_c (by simp [footOf, guardSlot, slotsOf, idsRead, looks, idsOf, idsOf1, idsWritten, colF]; kernel_rfl)) ?_))
  exact RI.ret rfl ⟨by omega, by omega, rfl, rfl⟩
/-- Whether a pulley is met again. -/
def keepE (cells : List SV) (len : Int) (q : List Int × SV × Nat) : Bool := match q.1 with
  | [p] => match cells[6 + p.toNat * 2]? with
    | some (.d (.val (.int _ lo))) => decide (lo ≤ len)
    | _ => true
  | _ => true
/-- Those that are left when some have been looked at. -/
def curE (cells : List SV) (len : Int) (es : List (List Int × SV × Nat)) (seen : List Nat) : List (List Int × SV × Nat) := es.filter fun q => !(seen.contains q.2.2) || keepE cells len q
def passL (cells : List SV) (len : Int) (es : List (List Int × SV × Nat)) : List (List Int × SV × Nat) := es.filter (keepE cells len)
theorem curE_all {cells : List SV} {len : Int} {es : List (List Int × SV × Nat)} {seen : List Nat} (h : ∀ q ∈ curE cells len es seen, q.2.2 ∈ seen) : curE cells len es seen = passL cells len es := by
  unfold curE passL
  refine List.filter_congr fun q hq => ?_
  by_cases hs : q.2.2 ∈ seen
  · simp [hs]
  · have : q ∈ curE cells len es seen := List.mem_filter.2 ⟨hq, by simp [hs]⟩
    exact absurd (h q this) hs
theorem born_eq {es : List (List Int × SV × Nat)} : (es.map (·.2.2)).Nodup → ∀ {p q : List Int × SV × Nat}, p ∈ es → q ∈ es → p.2.2 = q.2.2 → p = q := by
  induction es with
  | nil => intro _ p q hp; simp at hp
  | cons x es ih =>
    intro hn p q hp hq h
    rw [List.map_cons, List.nodup_cons] at hn
    rcases List.mem_cons.1 hp with e1 | hp'
    · rcases List.mem_cons.1 hq with e2 | hq'
      · rw [e1, e2]
      · subst e1; exact (hn.1 (List.mem_map.2 ⟨q, hq', h.symm⟩)).elim
    · rcases List.mem_cons.1 hq with e2 | hq'
      · subst e2; exact (hn.1 (List.mem_map.2 ⟨p, hp', h⟩)).elim
      · exact ih hn.2 hp' hq' h
theorem key_eq {es : List (List Int × SV × Nat)} : (es.map (·.1)).Nodup → ∀ {p q : List Int × SV × Nat}, p ∈ es → q ∈ es → p.1 = q.1 → p = q := by
  induction es with
  | nil => intro _ p q hp; simp at hp
  | cons x es ih =>
    intro hn p q hp hq h
    rw [List.map_cons, List.nodup_cons] at hn
    rcases List.mem_cons.1 hp with e1 | hp'
    · rcases List.mem_cons.1 hq with e2 | hq'
      · rw [e1, e2]
      · subst e1; exact (hn.1 (List.mem_map.2 ⟨q, hq', h.symm⟩)).elim
    · rcases List.mem_cons.1 hq with e2 | hq'
      · subst e2; exact (hn.1 (List.mem_map.2 ⟨p, hp', h⟩)).elim
      · exact ih hn.2 hp' hq' h
theorem curE_keep {cells : List SV} {len : Int} {es : List (List Int × SV × Nat)} {seen : List Nat} {q : List Int × SV × Nat} (hn2 : (es.map (·.2.2)).Nodup) (hq : q ∈ es) (h : keepE cells len q = true) : curE cells len es (q.2.2 :: seen) = curE cells len es seen := by
  unfold curE
  refine List.filter_congr fun p hp => ?_
  by_cases e : p.2.2 = q.2.2
  · rw [born_eq hn2 hp hq e, h]; simp
  · simp [e]
theorem curE_drop {cells : List SV} {len : Int} {es : List (List Int × SV × Nat)} {seen : List Nat} {q : List Int × SV × Nat} (hn1 : (es.map (·.1)).Nodup) (hn2 : (es.map (·.2.2)).Nodup) (hq : q ∈ es) (h : keepE cells len q = false) : (curE cells len es seen).filter (fun p => p.1 ≠ q.1) = curE cells len es (q.2.2 :: seen) := by
  unfold curE
  rw [List.filter_filter]
  refine List.filter_congr fun p hp => ?_
  by_cases e : p = q
  · subst e; simp [h]
  · have e1 : p.1 ≠ q.1 := fun x => e (key_eq hn1 hp hq x)
    have e2 : p.2.2 ≠ q.2.2 := fun x => e (born_eq hn2 hp hq x)
    simp [e1, e2]
theorem nodup_filter_map {α β : Type} {f : α → β} {p : α → Bool} {l : List α} (h : (l.map f).Nodup) : ((l.filter p).map f).Nodup := h.sublist (List.Sublist.map f List.filter_sublist)
theorem seen_le {es : List (List Int × SV × Nat)} {seen : List Nat} (hs : seen.Nodup) (h : ∀ b ∈ seen, b ∈ es.map (·.2.2)) : seen.length ≤ es.length := by
  have := List.Nodup.length_le_of_subset hs (fun b hb => h b hb)
  simpa using this
set_option maxRecDepth 100000 in
set_option maxHeartbeats 8000000 in
theorem pass_w {m : Mem} {wid id clock : Nat} {cells : List SV} {f : Bool} {es : List (List Int × SV × Nat)} (hm : m wid = some (.box 83 cells f)) (hid : m id = some (mapB mi es clock)) (hne : wid ≠ id) {n : Nat} (hw : wid < n) (hi : id < n)
    (hk : ∀ q ∈ es, ∃ (p : Nat) (lo : Int), p < 12 ∧ q.1 = [(p : Int)] ∧ cells[6 + p * 2]? = some (.d (iD lo))) (hn1 : (es.map (·.1)).Nodup) (hn2 : (es.map (·.2.2)).Nodup) (hb : ∀ q ∈ es, q.2.2 < clock) (len : Int) :
    CWp Try.prog 79 [.ptr wid 0 0, .mp id, .d (iD len)] n m fun y n' m' => n ≤ n' ∧ n' ≤ n + 20 + 60 * es.length ∧ y = .tup [] ∧ ∀ j, j < n → m' j = if j = id then some (mapB mi (passL cells len es) clock) else m j := by
  refine cwpK tabOk Try.func79 rfl rfl (show 3 ≤ _ by decide) rfl fun _ => ?_; simp only [Try.ntmps79]
  repeat (first | (with_reducible first | refine AWi.seqK fun _ => ?_ | refine AWi.blockK fun _ => ?_ | refine KI.go ?_) | ((first | refine AWi.region tabOk ?_ | refine AWi.condK fun _ _ => ?_ | refine AWi.draws tabOk rfl (by kernel_rfl) (by kernel_rfl) ?_); simp [-getElem?_pos, z0, z1, z2, hid]) | ((first | refine AWi.ret ?_ | refine AWi.skip ?_ | refine AWi.exit ?_); try simp only [thenP]) | (with_reducible refine BB.go ?_; simp only [blockP, thenP, reduceIte]) | (with_reducible refine And.intro (okLog_c (by simp [footOf, guardSlot, slotsOf, idsRead, looks, idsOf, idsOf1, idsWritten, colF]; kernel_rfl)) ?_))
  refine ExecI.range (mid := id) (clock := clock) (es := es.map fun q => (keyVal mi.agg mi.kk q.1, q.2)) (f := false) (by simp) rfl Try.underlying115 (by simp) (by simpa using hid) ?_
  simp
  repeat (first | (with_reducible first | refine AWi.seqK fun _ => ?_ | refine AWi.blockK fun _ => ?_ | refine KI.go ?_) | ((first | refine AWi.region tabOk ?_ | refine AWi.condK fun _ _ => ?_ | refine AWi.draws tabOk rfl (by kernel_rfl) (by kernel_rfl) ?_); simp [-getElem?_pos, z0, z1, z2, hid]) | ((first | refine AWi.ret ?_ | refine AWi.skip ?_ | refine AWi.exit ?_); try simp only [thenP]) | (with_reducible refine BB.go ?_; simp only [blockP, thenP, reduceIte]) | (with_reducible refine And.intro (okLog_c (by simp [footOf, guardSlot, slotsOf, idsRead, looks, idsOf, idsOf1, idsWritten, colF]; kernel_rfl)) ?_))
  refine AWi.loopK (fun seen nn s => n + 2 ≤ nn ∧ nn ≤ n + 2 + 60 * seen.length ∧ seen.Nodup ∧ (∀ b ∈ seen, b ∈ es.map (·.2.2)) ∧ s.slots 0 = .ptr wid 0 0 ∧ s.slots 1 = .mp id ∧ s.slots 2 = .d (iD len) ∧ s.slots 8 = .ptr (n + 1) 0 0 ∧ (∀ j, j < n → s.mem j = if j = id then some (mapB mi (curE cells len es seen) clock) else m j) ∧ s.mem (n + 1) = some (.iter id clock clock seen false)) (fun seen => es.length - seen.length) ([] : List Nat) ?_ ?_
  · refine ⟨by omega, by simp, List.nodup_nil, by simp, by simp, by simp, by simp, by simp, fun j hj => ?_, by simp⟩
    have e0 : curE cells len es [] = es := by unfold curE; exact List.filter_eq_self.2 fun q _ => by simp
    simp only [e0]
    by_cases h : j = id
    · subst h; simp [show ¬ j = n + 1 by omega, hid]
    · simp [h, show ¬ j = n + 1 by omega]
  rintro seen nn s ⟨h1, h2, h3, h4, s0, s1, s2, s8, hmem, hit⟩ kk
  have hmid : s.mem id = some (mapB mi (curE cells len es seen) clock) := by rw [hmem id hi, if_pos rfl]
  have hsub : ∀ q ∈ curE cells len es seen, q ∈ es := fun q hq => (List.mem_filter.1 hq).1
  repeat (first | (with_reducible first | refine AWi.seqK fun _ => ?_ | refine AWi.blockK fun _ => ?_ | refine KI.go ?_) | ((first | refine AWi.region tabOk ?_ | refine AWi.condK fun _ _ => ?_ | refine AWi.draws tabOk rfl (by kernel_rfl) (by kernel_rfl) ?_); simp [-getElem?_pos, z0, z1, z2, s0, s1, s2, s8]) | ((first | refine AWi.ret ?_ | refine AWi.skip ?_ | refine AWi.exit ?_); try simp only [thenP]) | (with_reducible refine BB.go ?_; simp only [blockP, thenP, reduceIte]) | (with_reducible refine And.intro (okLog_c (by simp [footOf, guardSlot, slotsOf, idsRead, looks, idsOf, idsOf1, idsWritten, colF]; kernel_rfl)) ?_))
  refine ExecI.next (id := n + 1) (mid := id) (since := clock) (last := clock) (clock := clock) (seen := seen) (es := (curE cells len es seen).map fun q => (keyVal mi.agg mi.kk q.1, q.2)) (by simp) rfl (by simp [s8]) hit hmid (fun q hq => ?_) (Nat.le_refl _) (fun q hq => ?_) (fun hall => ?_) fun q hq hqs => ?_
  · obtain ⟨p, hp, rfl⟩ := List.mem_map.1 hq
    exact hb p (hsub p hp)
  · obtain ⟨p, hp, rfl⟩ := List.mem_map.1 hq
    obtain ⟨k, lo, _, hk2, _⟩ := hk p (hsub p hp)
    simp [hk2, mi, keyVal, keyOk, Value.oneCell']
  · simp
    repeat (first | (with_reducible first | refine AWi.seqK fun _ => ?_ | refine AWi.blockK fun _ => ?_ | refine KI.go ?_) | ((first | refine AWi.region tabOk ?_ | refine AWi.condK fun _ _ => ?_ | refine AWi.draws tabOk rfl (by kernel_rfl) (by kernel_rfl) ?_); simp [-getElem?_pos, z0, z1, z2, s0, s1, s2, s8]) | ((first | refine AWi.ret ?_ | refine AWi.skip ?_ | refine AWi.exit ?_); try simp only [thenP]) | (with_reducible refine BB.go ?_; simp only [blockP, thenP, reduceIte]) | (with_reducible refine And.intro (okLog_c (by simp [footOf, guardSlot, slotsOf, idsRead, looks, idsOf, idsOf1, idsWritten, colF]; kernel_rfl)) ?_))
    refine RI.normal rfl ⟨by omega, ?_, rfl, fun j hj => ?_⟩
    · have := seen_le h3 h4
      omega
    · have := curE_all (cells := cells) (len := len) (es := es) (seen := seen) fun p hp => hall (keyVal mi.agg mi.kk p.1, p.2) (List.mem_map.2 ⟨p, hp, rfl⟩)
      rw [← this]
      exact hmem j hj
  · obtain ⟨p, hp, rfl⟩ := List.mem_map.1 hq
    have hpe := hsub p hp
    obtain ⟨k, lo, hk1, hk2, hk3⟩ := hk p hpe
    have hkeyS : keyS (keyVal mi.agg mi.kk p.1) = .d (iD (k : Int)) := by simp [hk2, mi, keyVal, keyS]
    have hkeyO : keyOk (keyVal mi.agg mi.kk p.1) = true := by simp [hk2, mi, keyVal, keyOk, Value.oneCell']
    have hnd : (p.2.2 :: seen).Nodup := List.nodup_cons.2 ⟨hqs, h3⟩
    have hin : ∀ b ∈ p.2.2 :: seen, b ∈ es.map (·.2.2) := fun b hb => by
      rcases List.mem_cons.1 hb with rfl | hb
      · exact List.mem_map.2 ⟨p, hpe, rfl⟩
      · exact h4 b hb
    have hlen := seen_le hnd hin
    simp only [List.length_cons] at hlen
    have hni : ¬ id = n + 1 := by omega
    simp only [hkeyS]
    simp
    repeat (first | (with_reducible first | refine AWi.seqK fun _ => ?_ | refine AWi.blockK fun _ => ?_ | refine KI.go ?_) | ((first | refine AWi.region tabOk ?_ | refine AWi.condK fun _ _ => ?_ | refine AWi.draws tabOk rfl (by kernel_rfl) (by kernel_rfl) ?_); simp [-getElem?_pos, z0, z1, z2, s0, s1, s2, s8]) | ((first | refine AWi.ret ?_ | refine AWi.skip ?_ | refine AWi.exit ?_); try simp only [thenP]) | (with_reducible refine BB.go ?_; simp only [blockP, thenP, reduceIte]) | (with_reducible refine And.intro (okLog_c (by simp [footOf, guardSlot, slotsOf, idsRead, looks, idsOf, idsOf1, idsWritten, colF]; kernel_rfl)) ?_))
    have hnd2 : ((List.map (fun q => (keyVal mi.agg mi.kk q.1, q.2)) (curE cells len es seen)).map (·.2.2)).Nodup := by
      rw [List.map_map]
      exact nodup_filter_map (f := fun q : List Int × SV × Nat => q.2.2) hn2
    refine ExecI.entry (id := n + 1) (mid := id) (since := clock) (last := clock) (clock := clock) (seen := seen) (es := (curE cells len es seen).map fun q => (keyVal mi.agg mi.kk q.1, q.2)) (f := false) (g := false) (keyVal mi.agg mi.kk p.1, p.2) (by simp) rfl (by simp [s8]) (by simp) (by simp [hni, hmid]) rfl hq hnd2 hkeyO ?_
    simp only [hkeyS]
    simp
    repeat (first | (with_reducible first | refine AWi.seqK fun _ => ?_ | refine AWi.blockK fun _ => ?_ | refine KI.go ?_) | ((first | refine AWi.region tabOk ?_ | refine AWi.condK fun _ _ => ?_ | refine AWi.draws tabOk rfl (by kernel_rfl) (by kernel_rfl) ?_); simp [-getElem?_pos, z0, z1, z2, s0, s1, s2, s8]) | ((first | refine AWi.ret ?_ | refine AWi.skip ?_ | refine AWi.exit ?_); try simp only [thenP]) | (with_reducible refine BB.go ?_; simp only [blockP, thenP, reduceIte]) | (with_reducible refine And.intro (okLog_c (by simp [footOf, guardSlot, slotsOf, idsRead, looks, idsOf, idsOf1, idsWritten, colF]; kernel_rfl)) ?_))
    have hwm : setMem s.mem (n + 1) (some (.iter id clock clock (p.2.2 :: seen) false)) wid = some (.box 83 cells f) := by
      simp [show ¬ wid = n + 1 by omega, hmem wid hw, hne, hm]
    refine ExecI.callC (least_w hwm hk3 hk1 _) rfl (by simp [calleeS, evList]) ?_
    rintro y n' m' ⟨q1, q2, rfl, rfl⟩
    by_cases g : len < lo
    · have hkf : keepE cells len p = false := by simp [keepE, hk2, hk3]; omega
      obtain ⟨jj, j1, j2⟩ := erase_key (q := p) hp (nodup_filter_map hn1)
      rw [curE_drop hn1 hn2 hpe hkf] at j2
      simp [-getElem?_pos, z0, z1, z2, s0, s1, s2, s8, g]
      repeat (first | (with_reducible first | refine AWi.seqK fun _ => ?_ | refine AWi.blockK fun _ => ?_ | refine KI.go ?_) | ((first | refine AWi.region tabOk ?_ | refine AWi.condK fun _ _ => ?_ | refine AWi.draws tabOk rfl (by kernel_rfl) (by kernel_rfl) ?_); simp [-getElem?_pos, z0, z1, z2, s0, s1, s2, s8, g]) | ((first | refine AWi.ret ?_ | refine AWi.skip ?_ | refine AWi.exit ?_); try simp only [thenP]) | (with_reducible refine BB.go ?_; simp only [blockP, thenP, reduceIte]) | (with_reducible refine And.intro (okLog_c (by simp [footOf, guardSlot, slotsOf, idsRead, looks, idsOf, idsOf1, idsWritten, colF]; kernel_rfl)) ?_))
      refine ExecI.delete mtOk (i := mi) (id := id) (clock := clock) (es := curE cells len es seen) (kv := .d (iD (k : Int))) (l := [(k : Int)]) (j := jj) (by simp) rfl rfl (by simp [s1]) (by simp [hni, hmid]) (by simp) (by simp [keyOf, intsOf, mi]) ?_ (by rw [← hk2]; exact j1) ?_
      · refine List.all_eq_true.2 fun x hx => ?_
        obtain ⟨k', _, _, hx2, _⟩ := hk x (hsub x hx)
        simp [hx2, mi]
      rw [j2]
      simp
      repeat (first | (with_reducible first | refine AWi.seqK fun _ => ?_ | refine AWi.blockK fun _ => ?_ | refine KI.go ?_) | ((first | refine AWi.region tabOk ?_ | refine AWi.condK fun _ _ => ?_ | refine AWi.draws tabOk rfl (by kernel_rfl) (by kernel_rfl) ?_); simp [-getElem?_pos, z0, z1, z2, s0, s1, s2, s8]) | ((first | refine AWi.ret ?_ | refine AWi.skip ?_ | refine AWi.exit ?_); try simp only [thenP]) | (with_reducible refine BB.go ?_; simp only [blockP, thenP, reduceIte]) | (with_reducible refine And.intro (okLog_c (by simp [footOf, guardSlot, slotsOf, idsRead, looks, idsOf, idsOf1, idsWritten, colF]; kernel_rfl)) ?_))
      refine LI.go (p.2.2 :: seen) ⟨by omega, by simp; omega, hnd, hin, by simp [s0], by simp [s1], by simp [s2], by simp [s8], fun j hj => ?_, by simp [Ne.symm hni]⟩ (by simp; omega)
      by_cases h : j = id
      · subst h; simp
      · simp [h, show ¬ j = n + 1 by omega, hmem j hj]
    · have hkt : keepE cells len p = true := by simp [keepE, hk2, hk3]; omega
      have e0 := curE_keep (cells := cells) (len := len) (seen := seen) hn2 hpe hkt
      simp [-getElem?_pos, z0, z1, z2, s0, s1, s2, s8, g]
      repeat (first | (with_reducible first | refine AWi.seqK fun _ => ?_ | refine AWi.blockK fun _ => ?_ | refine KI.go ?_) | ((first | refine AWi.region tabOk ?_ | refine AWi.condK fun _ _ => ?_ | refine AWi.draws tabOk rfl (by kernel_rfl) (by kernel_rfl) ?_); simp [-getElem?_pos, z0, z1, z2, s0, s1, s2, s8, g]) | ((first | refine AWi.ret ?_ | refine AWi.skip ?_ | refine AWi.exit ?_); try simp only [thenP]) | (with_reducible refine BB.go ?_; simp only [blockP, thenP, reduceIte]) | (with_reducible refine And.intro (okLog_c (by simp [footOf, guardSlot, slotsOf, idsRead, looks, idsOf, idsOf1, idsWritten, colF]; kernel_rfl)) ?_))
      refine LI.go (p.2.2 :: seen) ⟨by omega, by simp; omega, hnd, hin, by simp [s0], by simp [s1], by simp [s2], by simp [s8], fun j hj => ?_, by simp⟩ (by simp; omega)
      simp [show ¬ j = n + 1 by omega, hmem j hj, e0]
end Go.Proofs.Ytlbkofidcpkphaa.Eng

/-
  The runner for package rim: what pulleys are left out is known.
-/
noncomputable section
namespace Go.Proofs.Ytlbkofidcpkphaa.Eng
open Go.RowKit
set_option maxRecDepth 100000

def goodE (cells : List SV) (q : List Int × SV × Nat) : Bool := match q.1 with
  | [.ofNat k] => Nat.ble (k + 1) 12 && (match cells[6 + k * 2]? with
    | some (.d (.val (.int .i64 _))) => true
    | _ => false)
  | _ => false
def okEs2 (cells : List SV) (es : List (List Int × SV × Nat)) (clock : Nat) : Bool := es.all (fun q => goodE cells q && Nat.ble (q.2.2 + 1) clock) && decide (es.map (·.1)).Nodup && decide (es.map (·.2.2)).Nodup
def passSum (args : List SV) (n : Nat) (m : Tr CB) : Option Rs := match args with
  | [.ptr wid 0 0, .mp id, .d (.val (.int .i64 len))] => match m.get wid, m.get id with
    | some (.bx none ty N d t f), some (.mp false [.i64] es clock) => match Nat.beq ty 83 && Nat.ble id 10000000 && okEs2 (cellsOf N d t 0) es clock with
      | true => some ⟨.tup [], n + 20 + 60 * es.length, putM m id (some (.mp false [.i64] (passL (cellsOf N d t 0) len es) clock))⟩
      | false => none
    | _, _ => none
  | _ => none
theorem goodE_spec {cells : List SV} {q : List Int × SV × Nat} (h : goodE cells q = true) : ∃ (p : Nat) (lo : Int), p < 12 ∧ q.1 = [(p : Int)] ∧ cells[6 + p * 2]? = some (.d (iD lo)) := by
  unfold goodE at h
  split at h
  · rename_i k hq
    rw [Bool.and_eq_true] at h
    obtain ⟨h1, h2⟩ := h
    split at h2
    · rename_i lo hc
      exact ⟨k, lo, by have := Nat.le_of_ble_eq_true h1; omega, hq, hc⟩
    · cases h2
  · cases h
theorem pass_callable : Callable Try.prog 79 :=
  (pass_w (m := fun j => if j = 0 then some (.box 83 [] false) else if j = 1 then some (mapB mi [] 0) else none) (wid := 0) (id := 1) (clock := 0) (cells := []) (f := false) (es := []) (by simp) (by simp) (by decide) (n := 2) (by decide) (by decide) (by simp) (by simp) (by simp) (by simp) 0).callable
theorem passSum_ok {args : List SV} {n : Nat} {m : Tr CB} {q : Rs} (h : passSum args n m = some q) : Calls2 Try.prog 79 args n m q := by
  unfold passSum at h
  split at h
  · rename_i wid id len
    split at h
    · rename_i ty N d t f es clock h1 h2
      split at h
      · rename_i hc
        cases h
        simp only [Bool.and_eq_true, Nat.beq_eq, okEs2, List.all_eq_true, decide_eq_true_eq] at hc
        obtain ⟨⟨rfl, hid⟩, ⟨hall, hn1⟩, hn2⟩ := hc
        have hm1 : mOf m wid = some (.box 83 (cellsOf N d t 0) f) := mOf_get h1
        have hm2 : mOf m id = some (mapB mi es clock) := mOf_get h2
        have hne : wid ≠ id := fun e => by rw [e, h2] at h1; cases h1
        refine ⟨⟨pass_callable, fun W0 R0 E w vs M hs hr => ?_⟩, by show n ≤ n + 20 + 60 * es.length; omega, Recs.put (lt_deep hid) fun st pe k sl ps x y e => by rw [h2] at e; cases e⟩
        have hlt : ∀ i b, mOf m i = some b → i < n := fun i b hi => M.dom i (M.live i b hi)
        have H := pass_w hm1 hm2 hne (hlt _ _ hm1) (hlt _ _ hm2) (fun q hq => goodE_spec (hall q hq).1) hn1 hn2 (fun q hq => by have := Nat.le_of_ble_eq_true (hall q hq).2; omega) len
        refine (H.calls W0 R0 E w vs M hs hr).mono ?_
        rintro e w' ⟨v, E', n', m', y, rfl, M2, hE, hk, hv, k1, k2, rfl, k4⟩
        have hm : ∀ i b, mOf (putM m id (some (.mp false [.i64] (passL (cellsOf N d t 0) len es) clock))) i = some b → m' i = some b := fun i b hb => by
          rw [mOf_put (lt_deep hid)] at hb
          unfold setMem at hb
          split at hb
          · rename_i e
            subst e
            rw [k4 i (hlt _ _ hm2), if_pos rfl]
            exact hb
          · rename_i e
            rw [k4 i (hlt _ _ hb), if_neg e]
            exact hb
        exact ⟨v, E', _, _, _, rfl, ⟨M2.below, M2.ro0, M2.ro1, M2.rlt, fun i hi => Nat.lt_of_lt_of_le (M2.dom i hi) k2, fun i b hi => M2.live i b (hm i b hi), fun i b hi => M2.mem i b (hm i b hi), fun i b hi => M2.base i b (hm i b hi), fun i b hi => M2.frz i b (hm i b hi), fun i j b c hi hj hne => M2.inj i j b c (hm i b hi) (hm j c hj) hne⟩, hE, hk, hv, rfl, rfl, rfl⟩
      · cases h
    · cases h
  · cases h
def SMS : Sums := fun f => match Nat.beq f 79 with
  | true => some passSum
  | false => none
theorem smsOk : SumsOk Try.prog SMS := fun f g h args n m q hq => by
  unfold SMS at h
  split at h
  · rename_i e
    cases h
    rw [Nat.beq_eq] at e
    subst e
    exact passSum_ok hq
  · cases h
end Go.Proofs.Ytlbkofidcpkphaa.Eng

/-
  A call that is known: written by gen/wk.py.
-/
namespace Go.Proofs.Ytlbkofidcpkphaa.Eng
open Go.RowKit
set_option maxRecDepth 100000
def ra1 : Ent := ⟨18, [(.agg [(.d (.val (.int .i64 3000))), (.d (.val (.int .i64 1500))), (.d (.val (.int .i64 10))), (.d (.val (.int .i64 540000))), (.d (.val (.int .i64 720000)))]), (.sl 4 0 5 (some 5)), (.d (.val (.int .i64 1)))], 7, (.nd none .lf (.nd none (.nd (some (.bx none 2 5 [(.d (.val (.int .i64 200))), (.d (.val (.int .i64 250))), (.d (.val (.int .i64 260))), (.d (.val (.int .i64 300))), (.d (.val (.int .i64 390)))] .lf false)) .lf .lf) .lf)), ⟨(.tup [(.agg [(.d (.val (.int .i64 2170))), (.d (.val (.int .i64 2870)))]), (.d (.val (.int .i64 0)))]), 46, (.nd none .lf (.nd none (.nd (some (.bx none 2 5 [(.d (.val (.int .i64 200))), (.d (.val (.int .i64 250))), (.d (.val (.int .i64 260))), (.d (.val (.int .i64 300))), (.d (.val (.int .i64 390)))] .lf false)) .lf .lf) .lf))⟩⟩
theorem ra1_ok : Calls2 Try.prog ra1.f ra1.args ra1.n ra1.m ra1.q := chk_ok (fuel := 600) tabOk ztOk qtOk mtOk (known_sums smsOk) noGor mixed (by decide +kernel)
end Go.Proofs.Ytlbkofidcpkphaa.Eng

/-
  A call that is known: written by gen/wk.py.
-/
namespace Go.Proofs.Ytlbkofidcpkphaa.Eng
open Go.RowKit
set_option maxRecDepth 100000
def ra2 : Ent := ⟨20, [(.agg [(.d (.val (.int .i64 3000))), (.d (.val (.int .i64 1500))), (.d (.val (.int .i64 10))), (.d (.val (.int .i64 540000))), (.d (.val (.int .i64 720000)))]), (.sl 4 0 5 (some 5))], 48, (.nd none .lf (.nd none (.nd (some (.bx none 2 5 [(.d (.val (.int .i64 200))), (.d (.val (.int .i64 250))), (.d (.val (.int .i64 260))), (.d (.val (.int .i64 300))), (.d (.val (.int .i64 390)))] .lf false)) .lf .lf) .lf)), ⟨(.tup [(.d (.val (.int .i64 0))), (.d (.val (.int .i64 5)))]), 143, (.nd none .lf (.nd none (.nd (some (.bx none 2 5 [(.d (.val (.int .i64 200))), (.d (.val (.int .i64 250))), (.d (.val (.int .i64 260))), (.d (.val (.int .i64 300))), (.d (.val (.int .i64 390)))] .lf false)) .lf .lf) .lf))⟩⟩
theorem ra2_ok : Calls2 Try.prog ra2.f ra2.args ra2.n ra2.m ra2.q := chk_ok (fuel := 600) tabOk ztOk qtOk mtOk (known_sums smsOk) noGor mixed (by decide +kernel)
end Go.Proofs.Ytlbkofidcpkphaa.Eng

/-
  A call that is known: written by gen/wk.py.
-/
namespace Go.Proofs.Ytlbkofidcpkphaa.Eng
open Go.RowKit
set_option maxRecDepth 100000
def ra3 : Ent := ⟨20, [(.agg [(.d (.val (.int .i64 3000))), (.d (.val (.int .i64 1500))), (.d (.val (.int .i64 10))), (.d (.val (.int .i64 540000))), (.d (.val (.int .i64 720000)))]), (.sl 143 0 5 (some 5))], 144, (.nd none (.nd none (.nd none (.nd none (.nd none .lf (.nd none (.nd none (.nd (some (.bx none 2 5 [(.d (.val (.int .i64 200))), (.d (.val (.int .i64 250))), (.d (.val (.int .i64 260))), (.d (.val (.int .i64 300))), (.d (.val (.int .i64 400)))] .lf false)) .lf .lf) .lf) .lf)) .lf) .lf) .lf) .lf), ⟨(.tup [(.d (.val (.int .i64 1809))), (.d (.val (.int .i64 0)))]), 267, (.nd none (.nd none (.nd none (.nd none (.nd none .lf (.nd none (.nd none (.nd (some (.bx none 2 5 [(.d (.val (.int .i64 200))), (.d (.val (.int .i64 250))), (.d (.val (.int .i64 260))), (.d (.val (.int .i64 300))), (.d (.val (.int .i64 400)))] .lf false)) .lf .lf) .lf) .lf)) .lf) .lf) .lf) .lf)⟩⟩
theorem ra3_ok : Calls2 Try.prog ra3.f ra3.args ra3.n ra3.m ra3.q := chk_ok (fuel := 600) tabOk ztOk qtOk mtOk (known_sums smsOk) noGor mixed (by decide +kernel)
end Go.Proofs.Ytlbkofidcpkphaa.Eng

/-
  A call that is known: written by gen/wk.py.
-/
namespace Go.Proofs.Ytlbkofidcpkphaa.Eng
open Go.RowKit
set_option maxRecDepth 100000
def ra4 : Ent := ⟨28, [(.agg [(.d (.val (.int .i64 3000))), (.d (.val (.int .i64 1500))), (.d (.val (.int .i64 10))), (.d (.val (.int .i64 540000))), (.d (.val (.int .i64 720000)))]), (.sl 4 0 5 (some 5))], 267, (.nd none .lf (.nd none (.nd (some (.bx none 2 5 [(.d (.val (.int .i64 200))), (.d (.val (.int .i64 250))), (.d (.val (.int .i64 260))), (.d (.val (.int .i64 300))), (.d (.val (.int .i64 390)))] .lf false)) .lf .lf) .lf)), ⟨(.tup [(.sl 1509 0 4 (some 4)), (.d (.val (.int .i64 0)))]), 1511, (.nd none (.nd none .lf (.nd none .lf (.nd none (.nd none (.nd none .lf (.nd none .lf (.nd none .lf (.nd none .lf (.nd none (.nd (some (.bx none 59 8 [(.d (.val (.int .i64 0))), (.d (.val (.int .i64 0)))] (.nd (some (.d (.val (.int .i64 3000)))) (.nd (some (.d (.val (.int .i64 0)))) (.nd (some (.d (.val (.int .i64 2)))) (.nd (some (.d (.val (.int .i64 4)))) .lf .lf) .lf) (.nd (some (.d (.val (.int .i64 3)))) .lf .lf)) (.nd (some (.d (.val (.int .i64 2709)))) (.nd (some (.d (.val (.int .i64 2086)))) .lf .lf) (.nd (some (.d (.val (.int .i64 1809)))) .lf .lf))) false)) .lf .lf) .lf))))) .lf) .lf))) (.nd none (.nd (some (.bx none 2 5 [(.d (.val (.int .i64 200))), (.d (.val (.int .i64 250))), (.d (.val (.int .i64 260))), (.d (.val (.int .i64 300))), (.d (.val (.int .i64 390)))] .lf false)) .lf .lf) .lf))⟩⟩
theorem ra4_ok : Calls2 Try.prog ra4.f ra4.args ra4.n ra4.m ra4.q := chk_ok (fuel := 600) tabOk ztOk qtOk mtOk (known_sums smsOk) noGor mixed (by decide +kernel)
end Go.Proofs.Ytlbkofidcpkphaa.Eng

/-
  A call that is known: written by gen/wk.py.
-/
namespace Go.Proofs.Ytlbkofidcpkphaa.Eng
open Go.RowKit
set_option maxRecDepth 100000
def ra5 : Ent := ⟨24, [(.agg [(.d (.val (.int .i64 3000))), (.d (.val (.int .i64 1500))), (.d (.val (.int .i64 10))), (.d (.val (.int .i64 540000))), (.d (.val (.int .i64 720000)))]), (.sl 4 0 5 (some 5)), (.sl 1509 0 4 (some 4))], 1511, (.nd none (.nd none .lf (.nd none .lf (.nd none (.nd none (.nd none .lf (.nd none .lf (.nd none .lf (.nd none .lf (.nd none (.nd (some (.bx none 59 8 [(.d (.val (.int .i64 0))), (.d (.val (.int .i64 0)))] (.nd (some (.d (.val (.int .i64 3000)))) (.nd (some (.d (.val (.int .i64 0)))) (.nd (some (.d (.val (.int .i64 2)))) (.nd (some (.d (.val (.int .i64 4)))) .lf .lf) .lf) (.nd (some (.d (.val (.int .i64 3)))) .lf .lf)) (.nd (some (.d (.val (.int .i64 2709)))) (.nd (some (.d (.val (.int .i64 2086)))) .lf .lf) (.nd (some (.d (.val (.int .i64 1809)))) .lf .lf))) false)) .lf .lf) .lf))))) .lf) .lf))) (.nd none (.nd (some (.bx none 2 5 [(.d (.val (.int .i64 200))), (.d (.val (.int .i64 250))), (.d (.val (.int .i64 260))), (.d (.val (.int .i64 300))), (.d (.val (.int .i64 390)))] .lf false)) .lf .lf) .lf)), ⟨(.tup [(.agg [(.d (.val (.int .i64 540000))), (.d (.val (.int .i64 709410)))]), (.d (.val (.int .i64 0)))]), 1647, (.nd none (.nd none .lf (.nd none .lf (.nd none (.nd none (.nd none .lf (.nd none .lf (.nd none .lf (.nd none .lf (.nd none (.nd (some (.bx none 59 8 [(.d (.val (.int .i64 0))), (.d (.val (.int .i64 0)))] (.nd (some (.d (.val (.int .i64 3000)))) (.nd (some (.d (.val (.int .i64 0)))) (.nd (some (.d (.val (.int .i64 2)))) (.nd (some (.d (.val (.int .i64 4)))) .lf .lf) .lf) (.nd (some (.d (.val (.int .i64 3)))) .lf .lf)) (.nd (some (.d (.val (.int .i64 2709)))) (.nd (some (.d (.val (.int .i64 2086)))) .lf .lf) (.nd (some (.d (.val (.int .i64 1809)))) .lf .lf))) false)) .lf .lf) .lf))))) .lf) .lf))) (.nd none (.nd (some (.bx none 2 5 [(.d (.val (.int .i64 200))), (.d (.val (.int .i64 250))), (.d (.val (.int .i64 260))), (.d (.val (.int .i64 300))), (.d (.val (.int .i64 390)))] .lf false)) .lf .lf) .lf))⟩⟩
theorem ra5_ok : Calls2 Try.prog ra5.f ra5.args ra5.n ra5.m ra5.q := chk_ok (fuel := 600) tabOk ztOk qtOk mtOk (known_sums smsOk) noGor mixed (by decide +kernel)
end Go.Proofs.Ytlbkofidcpkphaa.Eng

/-
  A call that is known: written by gen/wk.py.
-/
namespace Go.Proofs.Ytlbkofidcpkphaa.Eng
open Go.RowKit
set_option maxRecDepth 100000
def ra6 : Ent := ⟨26, [(.agg [(.d (.val (.int .i64 3000))), (.d (.val (.int .i64 1500))), (.d (.val (.int .i64 10))), (.d (.val (.int .i64 540000))), (.d (.val (.int .i64 720000)))]), (.sl 4 0 5 (some 5)), (.sl 1657 0 4 (some 4))], 1658, (.nd none (.nd none .lf (.nd none (.nd none .lf (.nd none .lf (.nd none .lf (.nd none .lf (.nd none (.nd none (.nd none .lf (.nd (some (.bx none 59 8 [(.d (.val (.int .i64 3000))), (.d (.val (.int .i64 0))), (.d (.val (.int .i64 2800))), (.d (.val (.int .i64 1))), (.d (.val (.int .i64 2100))), (.d (.val (.int .i64 3))), (.d (.val (.int .i64 1836))), (.d (.val (.int .i64 4)))] .lf false)) .lf .lf)) .lf) .lf))))) .lf)) (.nd none (.nd (some (.bx none 2 5 [(.d (.val (.int .i64 200))), (.d (.val (.int .i64 250))), (.d (.val (.int .i64 260))), (.d (.val (.int .i64 300))), (.d (.val (.int .i64 390)))] .lf false)) .lf .lf) .lf)), ⟨(.d (.val (.int .i64 19))), 1746, (.nd none (.nd none .lf (.nd none (.nd none .lf (.nd none .lf (.nd none .lf (.nd none .lf (.nd none (.nd none (.nd none .lf (.nd (some (.bx none 59 8 [(.d (.val (.int .i64 3000))), (.d (.val (.int .i64 0))), (.d (.val (.int .i64 2800))), (.d (.val (.int .i64 1))), (.d (.val (.int .i64 2100))), (.d (.val (.int .i64 3))), (.d (.val (.int .i64 1836))), (.d (.val (.int .i64 4)))] .lf false)) .lf .lf)) .lf) .lf))))) .lf)) (.nd none (.nd (some (.bx none 2 5 [(.d (.val (.int .i64 200))), (.d (.val (.int .i64 250))), (.d (.val (.int .i64 260))), (.d (.val (.int .i64 300))), (.d (.val (.int .i64 390)))] .lf false)) .lf .lf) .lf))⟩⟩
theorem ra6_ok : Calls2 Try.prog ra6.f ra6.args ra6.n ra6.m ra6.q := chk_ok (fuel := 600) tabOk ztOk qtOk mtOk (known_sums smsOk) noGor mixed (by decide +kernel)
end Go.Proofs.Ytlbkofidcpkphaa.Eng

/-
  A call that is known: written by gen/wk.py.
-/
namespace Go.Proofs.Ytlbkofidcpkphaa.Eng
open Go.RowKit
set_option maxRecDepth 100000
def ra7 : Ent := ⟨30, [(.agg [(.d (.val (.int .i64 3000))), (.d (.val (.int .i64 1500))), (.d (.val (.int .i64 10))), (.d (.val (.int .i64 540000))), (.d (.val (.int .i64 720000)))]), (.sl 4 0 5 (some 5))], 1746, (.nd none .lf (.nd none (.nd (some (.bx none 2 5 [(.d (.val (.int .i64 200))), (.d (.val (.int .i64 250))), (.d (.val (.int .i64 260))), (.d (.val (.int .i64 300))), (.d (.val (.int .i64 390)))] .lf false)) .lf .lf) .lf)), ⟨(.tup [(.sl 3007 0 4 (some 4)), (.d (.val (.int .i64 0)))]), 3009, (.nd none (.nd none (.nd none (.nd none (.nd none (.nd none (.nd none .lf (.nd none .lf (.nd none .lf (.nd none .lf (.nd none (.nd (some (.bx none 2 4 [(.d (.val (.int .i64 0)))] (.nd (some (.d (.val (.int .i64 3000)))) (.nd (some (.d (.val (.int .i64 2709)))) (.nd (some (.d (.val (.int .i64 1809)))) .lf .lf) .lf) (.nd (some (.d (.val (.int .i64 2086)))) .lf .lf)) false)) .lf .lf) .lf))))) .lf) .lf) .lf) .lf) .lf) (.nd none (.nd (some (.bx none 2 5 [(.d (.val (.int .i64 200))), (.d (.val (.int .i64 250))), (.d (.val (.int .i64 260))), (.d (.val (.int .i64 300))), (.d (.val (.int .i64 390)))] .lf false)) .lf .lf) .lf))⟩⟩
theorem ra7_ok : Calls2 Try.prog ra7.f ra7.args ra7.n ra7.m ra7.q := chk_ok (fuel := 600) tabOk ztOk qtOk mtOk (known_sums smsOk) noGor mixed (by decide +kernel)
end Go.Proofs.Ytlbkofidcpkphaa.Eng

/-
  A call that is known: written by gen/wk.py.
-/
namespace Go.Proofs.Ytlbkofidcpkphaa.Eng
open Go.RowKit
set_option maxRecDepth 100000
def ra8 : Ent := ⟨34, [(.agg [(.d (.val (.int .i64 3000))), (.d (.val (.int .i64 1500))), (.d (.val (.int .i64 10))), (.d (.val (.int .i64 540000))), (.d (.val (.int .i64 720000)))]), (.sl 4 0 5 (some 5)), (.sl 3009 0 3 (some 3))], 3010, (.nd none (.nd none .lf (.nd none (.nd none (.nd none (.nd none (.nd none .lf (.nd none .lf (.nd none .lf (.nd none .lf (.nd none (.nd (some (.bx none 2 3 [(.d (.val (.int .i64 3000))), (.d (.val (.int .i64 2800))), (.d (.val (.int .i64 2000)))] .lf false)) .lf .lf) .lf))))) .lf) .lf) .lf) .lf)) (.nd none (.nd (some (.bx none 2 5 [(.d (.val (.int .i64 200))), (.d (.val (.int .i64 250))), (.d (.val (.int .i64 260))), (.d (.val (.int .i64 300))), (.d (.val (.int .i64 390)))] .lf false)) .lf .lf) .lf)), ⟨(.d (.val (.int .i64 14))), 3061, (.nd none (.nd none .lf (.nd none (.nd none (.nd none (.nd none (.nd none .lf (.nd none .lf (.nd none .lf (.nd none .lf (.nd none (.nd (some (.bx none 2 3 [(.d (.val (.int .i64 3000))), (.d (.val (.int .i64 2800))), (.d (.val (.int .i64 2000)))] .lf false)) .lf .lf) .lf))))) .lf) .lf) .lf) .lf)) (.nd none (.nd (some (.bx none 2 5 [(.d (.val (.int .i64 200))), (.d (.val (.int .i64 250))), (.d (.val (.int .i64 260))), (.d (.val (.int .i64 300))), (.d (.val (.int .i64 390)))] .lf false)) .lf .lf) .lf))⟩⟩
theorem ra8_ok : Calls2 Try.prog ra8.f ra8.args ra8.n ra8.m ra8.q := chk_ok (fuel := 600) tabOk ztOk qtOk mtOk (known_sums smsOk) noGor mixed (by decide +kernel)
end Go.Proofs.Ytlbkofidcpkphaa.Eng

/-
  A call that is known: written by gen/wk.py.
-/
namespace Go.Proofs.Ytlbkofidcpkphaa.Eng
open Go.RowKit
set_option maxRecDepth 100000
def ra9 : Ent := ⟨36, [(.agg [(.d (.val (.int .i64 3000))), (.d (.val (.int .i64 1500))), (.d (.val (.int .i64 10))), (.d (.val (.int .i64 540000))), (.d (.val (.int .i64 720000)))]), (.sl 4 0 5 (some 5)), (.d (.val (.int .i64 2)))], 3061, (.nd none .lf (.nd none (.nd (some (.bx none 2 5 [(.d (.val (.int .i64 200))), (.d (.val (.int .i64 250))), (.d (.val (.int .i64 260))), (.d (.val (.int .i64 300))), (.d (.val (.int .i64 390)))] .lf false)) .lf .lf) .lf)), ⟨(.tup [(.d (.val (.int .i64 2087))), (.d (.val (.int .i64 0)))]), 4083, (.nd none .lf (.nd none (.nd (some (.bx none 2 5 [(.d (.val (.int .i64 200))), (.d (.val (.int .i64 250))), (.d (.val (.int .i64 260))), (.d (.val (.int .i64 300))), (.d (.val (.int .i64 390)))] .lf false)) .lf .lf) .lf))⟩⟩
theorem ra9_ok : Calls2 Try.prog ra9.f ra9.args ra9.n ra9.m ra9.q := chk_ok (fuel := 600) tabOk ztOk qtOk mtOk (known_sums smsOk) noGor mixed (by decide +kernel)
end Go.Proofs.Ytlbkofidcpkphaa.Eng
