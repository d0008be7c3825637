/-
  A part of the texts that the claim builds on: see the last one.
-/
import Derived.Test.YtjjoiihgpkhndaaDm5
import Derived.Test.YtjjoiihgpkhndaaProg
set_option linter.unusedSimpArgs false
set_option linter.unusedVariables false
/-
  The types of this seat as a table, each entry held against the program.
-/
namespace Go.Proofs.Ytjjoiihgpkhndaa.Eng
open Go.RowKit

theorem info1 : (Try.prog.info? 1).map (fun i => (i.zero, i.size, i.bytes)) = some (some (.nilFunc), 1, 8) := by kernel_rfl
theorem ti1 : TiOk Try.prog 1 { size := 1, bytes := 8, zero := [.nilFunc], kind := .cell } := tiOk_mk info1 rfl rfl rfl (by decide) (⟨_, Try.underlying1, fun _ h => TypeDesc.noConfusion h, fun _ _ h => TypeDesc.noConfusion h⟩) (by decide) (fun h => absurd rfl h)
theorem info2 : (Try.prog.info? 2).map (fun i => (i.zero, i.size, i.bytes)) = some (some (.int .i64 0), 1, 8) := by kernel_rfl
theorem ti2 : TiOk Try.prog 2 { size := 1, bytes := 8, zero := [.int .i64 0], kind := .int .i64 } := tiOk_mk info2 rfl rfl rfl (by decide) (Try.underlying2) (by decide) (fun h => absurd rfl h)
theorem info3 : (Try.prog.info? 3).map (fun i => (i.zero, i.size, i.bytes)) = some (some (.int .i64 0), 1, 8) := by kernel_rfl
theorem ti3 : TiOk Try.prog 3 { size := 1, bytes := 8, zero := [.int .i64 0], kind := .int .i64 } := tiOk_mk info3 rfl rfl rfl (by decide) (Try.underlying3) (by decide) (fun h => absurd rfl h)
theorem info4 : (Try.prog.info? 4).map (fun i => (i.zero, i.size, i.bytes)) = some (some (.bool false), 1, 1) := by kernel_rfl
theorem ti4 : TiOk Try.prog 4 { size := 1, bytes := 1, zero := [.bool false], kind := .bool } := tiOk_mk info4 rfl rfl rfl (by decide) (Try.underlying4) (by decide) (fun h => absurd rfl h)
theorem info5 : (Try.prog.info? 5).map (fun i => (i.zero, i.size, i.bytes)) = some (some (.int .u8 0), 1, 1) := by kernel_rfl
theorem ti5 : TiOk Try.prog 5 { size := 1, bytes := 1, zero := [.int .u8 0], kind := .int .u8 } := tiOk_mk info5 rfl rfl rfl (by decide) (Try.underlying5) (by decide) (fun h => absurd rfl h)
theorem info6 : (Try.prog.info? 6).map (fun i => (i.zero, i.size, i.bytes)) = some (some (.int .u8 0), 1, 1) := by kernel_rfl
theorem ti6 : TiOk Try.prog 6 { size := 1, bytes := 1, zero := [.int .u8 0], kind := .int .u8 } := tiOk_mk info6 rfl rfl rfl (by decide) (Try.underlying6) (by decide) (fun h => absurd rfl h)
theorem info7 : (Try.prog.info? 7).map (fun i => (i.zero, i.size, i.bytes)) = some (some (.agg #[.int .i64 0, .int .i64 0, .bool false, .int .u8 0]), 4, 24) := by kernel_rfl
theorem ti7 : TiOk Try.prog 7 { size := 4, bytes := 24, zero := [.int .i64 0, .int .i64 0, .bool false, .int .u8 0], kind := .struct [(0, 2), (1, 3), (2, 4), (3, 6)] } := tiOk_mk info7 rfl rfl rfl (by decide) (⟨_, Try.underlying7, rfl⟩) (by decide) (fun h => absurd rfl h)
theorem info8 : (Try.prog.info? 8).map (fun i => (i.zero, i.size, i.bytes)) = some (some (.agg #[.int .i64 0, .int .i64 0, .bool false, .int .u8 0]), 4, 24) := by kernel_rfl
theorem ti8 : TiOk Try.prog 8 { size := 4, bytes := 24, zero := [.int .i64 0, .int .i64 0, .bool false, .int .u8 0], kind := .struct [(0, 2), (1, 3), (2, 4), (3, 6)] } := tiOk_mk info8 rfl rfl rfl (by decide) (⟨_, Try.underlying8, rfl⟩) (by decide) (fun h => absurd rfl h)
theorem info12 : (Try.prog.info? 12).map (fun i => (i.zero, i.size, i.bytes)) = some (some (.int .u64 0), 1, 8) := by kernel_rfl
theorem ti12 : TiOk Try.prog 12 { size := 1, bytes := 8, zero := [.int .u64 0], kind := .int .u64 } := tiOk_mk info12 rfl rfl rfl (by decide) (Try.underlying12) (by decide) (fun h => absurd rfl h)
theorem info15 : (Try.prog.info? 15).map (fun i => (i.zero, i.size, i.bytes)) = some (some (.pointer none), 1, 8) := by kernel_rfl
theorem ti15 : TiOk Try.prog 15 { size := 1, bytes := 8, zero := [.pointer none], kind := .cell } := tiOk_mk info15 rfl rfl rfl (by decide) (⟨_, Try.underlying15, fun _ h => TypeDesc.noConfusion h, fun _ _ h => TypeDesc.noConfusion h⟩) (by decide) (fun h => absurd rfl h)
theorem info16 : (Try.prog.info? 16).map (fun i => (i.zero, i.size, i.bytes)) = some (some (.pointer none), 1, 8) := by kernel_rfl
theorem ti16 : TiOk Try.prog 16 { size := 1, bytes := 8, zero := [.pointer none], kind := .cell } := tiOk_mk info16 rfl rfl rfl (by decide) (⟨_, Try.underlying16, fun _ h => TypeDesc.noConfusion h, fun _ _ h => TypeDesc.noConfusion h⟩) (by decide) (fun h => absurd rfl h)
theorem info17 : (Try.prog.info? 17).map (fun i => (i.zero, i.size, i.bytes)) = some (some (.pointer none), 1, 8) := by kernel_rfl
theorem ti17 : TiOk Try.prog 17 { size := 1, bytes := 8, zero := [.pointer none], kind := .cell } := tiOk_mk info17 rfl rfl rfl (by decide) (⟨_, Try.underlying17, fun _ h => TypeDesc.noConfusion h, fun _ _ h => TypeDesc.noConfusion h⟩) (by decide) (fun h => absurd rfl h)
theorem info18 : (Try.prog.info? 18).map (fun i => (i.zero, i.size, i.bytes)) = some (some (.agg #[.pointer none]), 1, 8) := by kernel_rfl
theorem ti18 : TiOk Try.prog 18 { size := 1, bytes := 8, zero := [.pointer none], kind := .struct [(0, 17)] } := tiOk_mk info18 rfl rfl rfl (by decide) (⟨_, Try.underlying18, rfl⟩) (by decide) (fun h => absurd rfl h)
theorem info19 : (Try.prog.info? 19).map (fun i => (i.zero, i.size, i.bytes)) = some (some (.agg #[.pointer none]), 1, 8) := by kernel_rfl
theorem ti19 : TiOk Try.prog 19 { size := 1, bytes := 8, zero := [.pointer none], kind := .struct [(0, 17)] } := tiOk_mk info19 rfl rfl rfl (by decide) (⟨_, Try.underlying19, rfl⟩) (by decide) (fun h => absurd rfl h)
theorem info21 : (Try.prog.info? 21).map (fun i => (i.zero, i.size, i.bytes)) = some (some (.int .i32 0), 1, 4) := by kernel_rfl
theorem ti21 : TiOk Try.prog 21 { size := 1, bytes := 4, zero := [.int .i32 0], kind := .int .i32 } := tiOk_mk info21 rfl rfl rfl (by decide) (Try.underlying21) (by decide) (fun h => absurd rfl h)
theorem info22 : (Try.prog.info? 22).map (fun i => (i.zero, i.size, i.bytes)) = some (some (.slice none 0 0), 1, 24) := by kernel_rfl
theorem ti22 : TiOk Try.prog 22 { size := 1, bytes := 24, zero := [.slice none 0 0], kind := .slice 62 } := tiOk_mk info22 rfl rfl rfl (by decide) (Try.underlying22) (by decide) (fun h => absurd rfl h)
theorem info23 : (Try.prog.info? 23).map (fun i => (i.zero, i.size, i.bytes)) = some (some (.slice none 0 0), 1, 24) := by kernel_rfl
theorem ti23 : TiOk Try.prog 23 { size := 1, bytes := 24, zero := [.slice none 0 0], kind := .slice 2 } := tiOk_mk info23 rfl rfl rfl (by decide) (Try.underlying23) (by decide) (fun h => absurd rfl h)
theorem info24 : (Try.prog.info? 24).map (fun i => (i.zero, i.size, i.bytes)) = some (some (.agg #[.int .i64 0, .int .i64 0]), 2, 16) := by kernel_rfl
theorem eqs24 (w : World) (x y : Operand) (m n : List Int) (hm : m.length = 2) (hn : n.length = 2) :
    (do eqGuard .eql 24 x y (aggInts [.i64, .i64] m) (aggInts [.i64, .i64] n); binOp .eql 24 (aggInts [.i64, .i64] m) (aggInts [.i64, .i64] n) : Sem Value).run Try.prog w = .ok (.bool (decide (m = n))) w ∧
    (do eqGuard .neq 24 x y (aggInts [.i64, .i64] m) (aggInts [.i64, .i64] n); binOp .neq 24 (aggInts [.i64, .i64] m) (aggInts [.i64, .i64] n) : Sem Value).run Try.prog w = .ok (.bool (decide (m ≠ n))) w := by
  exact eqs_by_2 w x y hm hn (by kernel_rfl) (by kernel_rfl) Try.underlying24 Try.underlying2 Try.underlying2 (by decide)
theorem ti24 : TiOk Try.prog 24 { size := 2, bytes := 16, zero := [.int .i64 0, .int .i64 0], kind := .struct [(0, 2), (1, 2)], eqk := [.i64, .i64] } := tiOk_mk info24 rfl rfl rfl (by decide) (⟨_, Try.underlying24, rfl⟩) (by decide) (fun _ => eqs24)
theorem info25 : (Try.prog.info? 25).map (fun i => (i.zero, i.size, i.bytes)) = some (some (.agg #[.int .i64 0, .int .i64 0]), 2, 16) := by kernel_rfl
theorem eqs25 (w : World) (x y : Operand) (m n : List Int) (hm : m.length = 2) (hn : n.length = 2) :
    (do eqGuard .eql 25 x y (aggInts [.i64, .i64] m) (aggInts [.i64, .i64] n); binOp .eql 25 (aggInts [.i64, .i64] m) (aggInts [.i64, .i64] n) : Sem Value).run Try.prog w = .ok (.bool (decide (m = n))) w ∧
    (do eqGuard .neq 25 x y (aggInts [.i64, .i64] m) (aggInts [.i64, .i64] n); binOp .neq 25 (aggInts [.i64, .i64] m) (aggInts [.i64, .i64] n) : Sem Value).run Try.prog w = .ok (.bool (decide (m ≠ n))) w := by
  exact eqs_by_2 w x y hm hn (by kernel_rfl) (by kernel_rfl) Try.underlying25 Try.underlying2 Try.underlying2 (by decide)
theorem ti25 : TiOk Try.prog 25 { size := 2, bytes := 16, zero := [.int .i64 0, .int .i64 0], kind := .struct [(0, 2), (1, 2)], eqk := [.i64, .i64] } := tiOk_mk info25 rfl rfl rfl (by decide) (⟨_, Try.underlying25, rfl⟩) (by decide) (fun _ => eqs25)
theorem info26 : (Try.prog.info? 26).map (fun i => (i.zero, i.size, i.bytes)) = some (some (.slice none 0 0), 1, 24) := by kernel_rfl
theorem ti26 : TiOk Try.prog 26 { size := 1, bytes := 24, zero := [.slice none 0 0], kind := .slice 25 } := tiOk_mk info26 rfl rfl rfl (by decide) (Try.underlying26) (by decide) (fun h => absurd rfl h)
theorem info27 : (Try.prog.info? 27).map (fun i => (i.zero, i.size, i.bytes)) = some (some (.nilFunc), 1, 8) := by kernel_rfl
theorem ti27 : TiOk Try.prog 27 { size := 1, bytes := 8, zero := [.nilFunc], kind := .cell } := tiOk_mk info27 rfl rfl rfl (by decide) (⟨_, Try.underlying27, fun _ h => TypeDesc.noConfusion h, fun _ _ h => TypeDesc.noConfusion h⟩) (by decide) (fun h => absurd rfl h)
theorem info28 : (Try.prog.info? 28).map (fun i => (i.zero, i.size, i.bytes)) = some (some (.nilFunc), 1, 8) := by kernel_rfl
theorem ti28 : TiOk Try.prog 28 { size := 1, bytes := 8, zero := [.nilFunc], kind := .cell } := tiOk_mk info28 rfl rfl rfl (by decide) (⟨_, Try.underlying28, fun _ h => TypeDesc.noConfusion h, fun _ _ h => TypeDesc.noConfusion h⟩) (by decide) (fun h => absurd rfl h)
theorem info29 : (Try.prog.info? 29).map (fun i => (i.zero, i.size, i.bytes)) = some (some (.slice none 0 0), 1, 24) := by kernel_rfl
theorem ti29 : TiOk Try.prog 29 { size := 1, bytes := 24, zero := [.slice none 0 0], kind := .slice 3 } := tiOk_mk info29 rfl rfl rfl (by decide) (Try.underlying29) (by decide) (fun h => absurd rfl h)
theorem info30 : (Try.prog.info? 30).map (fun i => (i.zero, i.size, i.bytes)) = some (some (.int .i64 0), 1, 8) := by kernel_rfl
theorem ti30 : TiOk Try.prog 30 { size := 1, bytes := 8, zero := [.int .i64 0], kind := .int .i64 } := tiOk_mk info30 rfl rfl rfl (by decide) (Try.underlying30) (by decide) (fun h => absurd rfl h)
theorem info32 : (Try.prog.info? 32).map (fun i => (i.zero, i.size, i.bytes)) = some (some (.nilFunc), 1, 8) := by kernel_rfl
theorem ti32 : TiOk Try.prog 32 { size := 1, bytes := 8, zero := [.nilFunc], kind := .cell } := tiOk_mk info32 rfl rfl rfl (by decide) (⟨_, Try.underlying32, fun _ h => TypeDesc.noConfusion h, fun _ _ h => TypeDesc.noConfusion h⟩) (by decide) (fun h => absurd rfl h)
theorem info33 : (Try.prog.info? 33).map (fun i => (i.zero, i.size, i.bytes)) = some (some (.agg #[.int .i64 0, .int .i64 0, .int .i64 0, .int .i64 0]), 4, 32) := by kernel_rfl
theorem ti33 : TiOk Try.prog 33 { size := 4, bytes := 32, zero := [.int .i64 0, .int .i64 0, .int .i64 0, .int .i64 0], kind := .struct [(0, 25), (2, 25)] } := tiOk_mk info33 rfl rfl rfl (by decide) (⟨_, Try.underlying33, rfl⟩) (by decide) (fun h => absurd rfl h)
theorem info34 : (Try.prog.info? 34).map (fun i => (i.zero, i.size, i.bytes)) = some (some (.agg #[.int .i64 0, .int .i64 0, .int .i64 0, .int .i64 0]), 4, 32) := by kernel_rfl
theorem ti34 : TiOk Try.prog 34 { size := 4, bytes := 32, zero := [.int .i64 0, .int .i64 0, .int .i64 0, .int .i64 0], kind := .struct [(0, 25), (2, 25)] } := tiOk_mk info34 rfl rfl rfl (by decide) (⟨_, Try.underlying34, rfl⟩) (by decide) (fun h => absurd rfl h)
theorem info36 : (Try.prog.info? 36).map (fun i => (i.zero, i.size, i.bytes)) = some (some (.nilFunc), 1, 8) := by kernel_rfl
theorem ti36 : TiOk Try.prog 36 { size := 1, bytes := 8, zero := [.nilFunc], kind := .cell } := tiOk_mk info36 rfl rfl rfl (by decide) (⟨_, Try.underlying36, fun _ h => TypeDesc.noConfusion h, fun _ _ h => TypeDesc.noConfusion h⟩) (by decide) (fun h => absurd rfl h)
theorem info37 : (Try.prog.info? 37).map (fun i => (i.zero, i.size, i.bytes)) = some (some (.nilFunc), 1, 8) := by kernel_rfl
theorem ti37 : TiOk Try.prog 37 { size := 1, bytes := 8, zero := [.nilFunc], kind := .cell } := tiOk_mk info37 rfl rfl rfl (by decide) (⟨_, Try.underlying37, fun _ h => TypeDesc.noConfusion h, fun _ _ h => TypeDesc.noConfusion h⟩) (by decide) (fun h => absurd rfl h)
theorem info38 : (Try.prog.info? 38).map (fun i => (i.zero, i.size, i.bytes)) = some (some (.nilFunc), 1, 8) := by kernel_rfl
theorem ti38 : TiOk Try.prog 38 { size := 1, bytes := 8, zero := [.nilFunc], kind := .cell } := tiOk_mk info38 rfl rfl rfl (by decide) (⟨_, Try.underlying38, fun _ h => TypeDesc.noConfusion h, fun _ _ h => TypeDesc.noConfusion h⟩) (by decide) (fun h => absurd rfl h)
theorem info39 : (Try.prog.info? 39).map (fun i => (i.zero, i.size, i.bytes)) = some (some (.nilFunc), 1, 8) := by kernel_rfl
theorem ti39 : TiOk Try.prog 39 { size := 1, bytes := 8, zero := [.nilFunc], kind := .cell } := tiOk_mk info39 rfl rfl rfl (by decide) (⟨_, Try.underlying39, fun _ h => TypeDesc.noConfusion h, fun _ _ h => TypeDesc.noConfusion h⟩) (by decide) (fun h => absurd rfl h)
theorem info40 : (Try.prog.info? 40).map (fun i => (i.zero, i.size, i.bytes)) = some (some (.nilFunc), 1, 8) := by kernel_rfl
theorem ti40 : TiOk Try.prog 40 { size := 1, bytes := 8, zero := [.nilFunc], kind := .cell } := tiOk_mk info40 rfl rfl rfl (by decide) (⟨_, Try.underlying40, fun _ h => TypeDesc.noConfusion h, fun _ _ h => TypeDesc.noConfusion h⟩) (by decide) (fun h => absurd rfl h)
theorem info41 : (Try.prog.info? 41).map (fun i => (i.zero, i.size, i.bytes)) = some (some (.nilFunc), 1, 8) := by kernel_rfl
theorem ti41 : TiOk Try.prog 41 { size := 1, bytes := 8, zero := [.nilFunc], kind := .cell } := tiOk_mk info41 rfl rfl rfl (by decide) (⟨_, Try.underlying41, fun _ h => TypeDesc.noConfusion h, fun _ _ h => TypeDesc.noConfusion h⟩) (by decide) (fun h => absurd rfl h)
theorem info42 : (Try.prog.info? 42).map (fun i => (i.zero, i.size, i.bytes)) = some (some (.nilFunc), 1, 8) := by kernel_rfl
theorem ti42 : TiOk Try.prog 42 { size := 1, bytes := 8, zero := [.nilFunc], kind := .cell } := tiOk_mk info42 rfl rfl rfl (by decide) (⟨_, Try.underlying42, fun _ h => TypeDesc.noConfusion h, fun _ _ h => TypeDesc.noConfusion h⟩) (by decide) (fun h => absurd rfl h)
theorem info43 : (Try.prog.info? 43).map (fun i => (i.zero, i.size, i.bytes)) = some (some (.nilFunc), 1, 8) := by kernel_rfl
theorem ti43 : TiOk Try.prog 43 { size := 1, bytes := 8, zero := [.nilFunc], kind := .cell } := tiOk_mk info43 rfl rfl rfl (by decide) (⟨_, Try.underlying43, fun _ h => TypeDesc.noConfusion h, fun _ _ h => TypeDesc.noConfusion h⟩) (by decide) (fun h => absurd rfl h)
theorem info44 : (Try.prog.info? 44).map (fun i => (i.zero, i.size, i.bytes)) = some (some (.agg #[.int .i64 0, .int .i64 0, .int .i64 0]), 3, 24) := by kernel_rfl
theorem ti44 : TiOk Try.prog 44 { size := 3, bytes := 24, zero := [.int .i64 0, .int .i64 0, .int .i64 0], kind := .array 3 3 } := tiOk_mk info44 rfl rfl rfl (by decide) (Try.underlying44) (by decide) (fun h => absurd rfl h)
theorem info46 : (Try.prog.info? 46).map (fun i => (i.zero, i.size, i.bytes)) = some (some (.nilFunc), 1, 8) := by kernel_rfl
theorem ti46 : TiOk Try.prog 46 { size := 1, bytes := 8, zero := [.nilFunc], kind := .cell } := tiOk_mk info46 rfl rfl rfl (by decide) (⟨_, Try.underlying46, fun _ h => TypeDesc.noConfusion h, fun _ _ h => TypeDesc.noConfusion h⟩) (by decide) (fun h => absurd rfl h)
theorem info48 : (Try.prog.info? 48).map (fun i => (i.zero, i.size, i.bytes)) = some (some (.nilFunc), 1, 8) := by kernel_rfl
theorem ti48 : TiOk Try.prog 48 { size := 1, bytes := 8, zero := [.nilFunc], kind := .cell } := tiOk_mk info48 rfl rfl rfl (by decide) (⟨_, Try.underlying48, fun _ h => TypeDesc.noConfusion h, fun _ _ h => TypeDesc.noConfusion h⟩) (by decide) (fun h => absurd rfl h)
theorem info49 : (Try.prog.info? 49).map (fun i => (i.zero, i.size, i.bytes)) = some (some (.nilFunc), 1, 8) := by kernel_rfl
theorem ti49 : TiOk Try.prog 49 { size := 1, bytes := 8, zero := [.nilFunc], kind := .cell } := tiOk_mk info49 rfl rfl rfl (by decide) (⟨_, Try.underlying49, fun _ h => TypeDesc.noConfusion h, fun _ _ h => TypeDesc.noConfusion h⟩) (by decide) (fun h => absurd rfl h)
theorem info50 : (Try.prog.info? 50).map (fun i => (i.zero, i.size, i.bytes)) = some (some (.slice none 0 0), 1, 24) := by kernel_rfl
theorem ti50 : TiOk Try.prog 50 { size := 1, bytes := 24, zero := [.slice none 0 0], kind := .slice 65 } := tiOk_mk info50 rfl rfl rfl (by decide) (Try.underlying50) (by decide) (fun h => absurd rfl h)
theorem info51 : (Try.prog.info? 51).map (fun i => (i.zero, i.size, i.bytes)) = some (some (.agg #[.int .u8 0, .int .u8 0, .int .u8 0]), 3, 3) := by kernel_rfl
theorem ti51 : TiOk Try.prog 51 { size := 3, bytes := 3, zero := [.int .u8 0, .int .u8 0, .int .u8 0], kind := .array 3 5 } := tiOk_mk info51 rfl rfl rfl (by decide) (Try.underlying51) (by decide) (fun h => absurd rfl h)
theorem info52 : (Try.prog.info? 52).map (fun i => (i.zero, i.size, i.bytes)) = some (some (.nilFunc), 1, 8) := by kernel_rfl
theorem ti52 : TiOk Try.prog 52 { size := 1, bytes := 8, zero := [.nilFunc], kind := .cell } := tiOk_mk info52 rfl rfl rfl (by decide) (⟨_, Try.underlying52, fun _ h => TypeDesc.noConfusion h, fun _ _ h => TypeDesc.noConfusion h⟩) (by decide) (fun h => absurd rfl h)
theorem info53 : (Try.prog.info? 53).map (fun i => (i.zero, i.size, i.bytes)) = some (some (.nilFunc), 1, 8) := by kernel_rfl
theorem ti53 : TiOk Try.prog 53 { size := 1, bytes := 8, zero := [.nilFunc], kind := .cell } := tiOk_mk info53 rfl rfl rfl (by decide) (⟨_, Try.underlying53, fun _ h => TypeDesc.noConfusion h, fun _ _ h => TypeDesc.noConfusion h⟩) (by decide) (fun h => absurd rfl h)
theorem info54 : (Try.prog.info? 54).map (fun i => (i.zero, i.size, i.bytes)) = some (some (.nilFunc), 1, 8) := by kernel_rfl
theorem ti54 : TiOk Try.prog 54 { size := 1, bytes := 8, zero := [.nilFunc], kind := .cell } := tiOk_mk info54 rfl rfl rfl (by decide) (⟨_, Try.underlying54, fun _ h => TypeDesc.noConfusion h, fun _ _ h => TypeDesc.noConfusion h⟩) (by decide) (fun h => absurd rfl h)
theorem info55 : (Try.prog.info? 55).map (fun i => (i.zero, i.size, i.bytes)) = some (some (.nilFunc), 1, 8) := by kernel_rfl
theorem ti55 : TiOk Try.prog 55 { size := 1, bytes := 8, zero := [.nilFunc], kind := .cell } := tiOk_mk info55 rfl rfl rfl (by decide) (⟨_, Try.underlying55, fun _ h => TypeDesc.noConfusion h, fun _ _ h => TypeDesc.noConfusion h⟩) (by decide) (fun h => absurd rfl h)
theorem info56 : (Try.prog.info? 56).map (fun i => (i.zero, i.size, i.bytes)) = some (some (.nilFunc), 1, 8) := by kernel_rfl
theorem ti56 : TiOk Try.prog 56 { size := 1, bytes := 8, zero := [.nilFunc], kind := .cell } := tiOk_mk info56 rfl rfl rfl (by decide) (⟨_, Try.underlying56, fun _ h => TypeDesc.noConfusion h, fun _ _ h => TypeDesc.noConfusion h⟩) (by decide) (fun h => absurd rfl h)
theorem info57 : (Try.prog.info? 57).map (fun i => (i.zero, i.size, i.bytes)) = some (some (.nilFunc), 1, 8) := by kernel_rfl
theorem ti57 : TiOk Try.prog 57 { size := 1, bytes := 8, zero := [.nilFunc], kind := .cell } := tiOk_mk info57 rfl rfl rfl (by decide) (⟨_, Try.underlying57, fun _ h => TypeDesc.noConfusion h, fun _ _ h => TypeDesc.noConfusion h⟩) (by decide) (fun h => absurd rfl h)
theorem info58 : (Try.prog.info? 58).map (fun i => (i.zero, i.size, i.bytes)) = some (some (.nilFunc), 1, 8) := by kernel_rfl
theorem ti58 : TiOk Try.prog 58 { size := 1, bytes := 8, zero := [.nilFunc], kind := .cell } := tiOk_mk info58 rfl rfl rfl (by decide) (⟨_, Try.underlying58, fun _ h => TypeDesc.noConfusion h, fun _ _ h => TypeDesc.noConfusion h⟩) (by decide) (fun h => absurd rfl h)
theorem info59 : (Try.prog.info? 59).map (fun i => (i.zero, i.size, i.bytes)) = some (some (.agg #[.int .i64 0, .int .i64 0]), 2, 16) := by kernel_rfl
theorem eqs59 (w : World) (x y : Operand) (m n : List Int) (hm : m.length = 2) (hn : n.length = 2) :
    (do eqGuard .eql 59 x y (aggInts [.i64, .i64] m) (aggInts [.i64, .i64] n); binOp .eql 59 (aggInts [.i64, .i64] m) (aggInts [.i64, .i64] n) : Sem Value).run Try.prog w = .ok (.bool (decide (m = n))) w ∧
    (do eqGuard .neq 59 x y (aggInts [.i64, .i64] m) (aggInts [.i64, .i64] n); binOp .neq 59 (aggInts [.i64, .i64] m) (aggInts [.i64, .i64] n) : Sem Value).run Try.prog w = .ok (.bool (decide (m ≠ n))) w := by
  exact eqs_by_2 w x y hm hn (by kernel_rfl) (by kernel_rfl) Try.underlying59 Try.underlying2 Try.underlying2 (by decide)
theorem ti59 : TiOk Try.prog 59 { size := 2, bytes := 16, zero := [.int .i64 0, .int .i64 0], kind := .struct [(0, 2), (1, 2)], eqk := [.i64, .i64] } := tiOk_mk info59 rfl rfl rfl (by decide) (⟨_, Try.underlying59, rfl⟩) (by decide) (fun _ => eqs59)
theorem info60 : (Try.prog.info? 60).map (fun i => (i.zero, i.size, i.bytes)) = some (some (.agg #[.int .i64 0, .int .i64 0]), 2, 16) := by kernel_rfl
theorem eqs60 (w : World) (x y : Operand) (m n : List Int) (hm : m.length = 2) (hn : n.length = 2) :
    (do eqGuard .eql 60 x y (aggInts [.i64, .i64] m) (aggInts [.i64, .i64] n); binOp .eql 60 (aggInts [.i64, .i64] m) (aggInts [.i64, .i64] n) : Sem Value).run Try.prog w = .ok (.bool (decide (m = n))) w ∧
    (do eqGuard .neq 60 x y (aggInts [.i64, .i64] m) (aggInts [.i64, .i64] n); binOp .neq 60 (aggInts [.i64, .i64] m) (aggInts [.i64, .i64] n) : Sem Value).run Try.prog w = .ok (.bool (decide (m ≠ n))) w := by
  exact eqs_by_2 w x y hm hn (by kernel_rfl) (by kernel_rfl) Try.underlying60 Try.underlying2 Try.underlying2 (by decide)
theorem ti60 : TiOk Try.prog 60 { size := 2, bytes := 16, zero := [.int .i64 0, .int .i64 0], kind := .struct [(0, 2), (1, 2)], eqk := [.i64, .i64] } := tiOk_mk info60 rfl rfl rfl (by decide) (⟨_, Try.underlying60, rfl⟩) (by decide) (fun _ => eqs60)
theorem info61 : (Try.prog.info? 61).map (fun i => (i.zero, i.size, i.bytes)) = some (some (.agg #[.int .i64 0, .int .i64 0, .int .i64 0]), 3, 24) := by kernel_rfl
theorem ti61 : TiOk Try.prog 61 { size := 3, bytes := 24, zero := [.int .i64 0, .int .i64 0, .int .i64 0], kind := .struct [(0, 2), (1, 60)] } := tiOk_mk info61 rfl rfl rfl (by decide) (⟨_, Try.underlying61, rfl⟩) (by decide) (fun h => absurd rfl h)
theorem info62 : (Try.prog.info? 62).map (fun i => (i.zero, i.size, i.bytes)) = some (some (.agg #[.int .i64 0, .int .i64 0, .int .i64 0]), 3, 24) := by kernel_rfl
theorem ti62 : TiOk Try.prog 62 { size := 3, bytes := 24, zero := [.int .i64 0, .int .i64 0, .int .i64 0], kind := .struct [(0, 2), (1, 60)] } := tiOk_mk info62 rfl rfl rfl (by decide) (⟨_, Try.underlying62, rfl⟩) (by decide) (fun h => absurd rfl h)
theorem info63 : (Try.prog.info? 63).map (fun i => (i.zero, i.size, i.bytes)) = some (some (.nilFunc), 1, 8) := by kernel_rfl
theorem ti63 : TiOk Try.prog 63 { size := 1, bytes := 8, zero := [.nilFunc], kind := .cell } := tiOk_mk info63 rfl rfl rfl (by decide) (⟨_, Try.underlying63, fun _ h => TypeDesc.noConfusion h, fun _ _ h => TypeDesc.noConfusion h⟩) (by decide) (fun h => absurd rfl h)
theorem info64 : (Try.prog.info? 64).map (fun i => (i.zero, i.size, i.bytes)) = some (some (.nilFunc), 1, 8) := by kernel_rfl
theorem ti64 : TiOk Try.prog 64 { size := 1, bytes := 8, zero := [.nilFunc], kind := .cell } := tiOk_mk info64 rfl rfl rfl (by decide) (⟨_, Try.underlying64, fun _ h => TypeDesc.noConfusion h, fun _ _ h => TypeDesc.noConfusion h⟩) (by decide) (fun h => absurd rfl h)
theorem info65 : (Try.prog.info? 65).map (fun i => (i.zero, i.size, i.bytes)) = some (some (.int .u16 0), 1, 2) := by kernel_rfl
theorem ti65 : TiOk Try.prog 65 { size := 1, bytes := 2, zero := [.int .u16 0], kind := .int .u16 } := tiOk_mk info65 rfl rfl rfl (by decide) (Try.underlying65) (by decide) (fun h => absurd rfl h)
theorem info66 : (Try.prog.info? 66).map (fun i => (i.zero, i.size, i.bytes)) = some (some (.agg #[.int .u16 0, .int .u16 0]), 2, 4) := by kernel_rfl
theorem ti66 : TiOk Try.prog 66 { size := 2, bytes := 4, zero := [.int .u16 0, .int .u16 0], kind := .array 2 65 } := tiOk_mk info66 rfl rfl rfl (by decide) (Try.underlying66) (by decide) (fun h => absurd rfl h)
theorem info67 : (Try.prog.info? 67).map (fun i => (i.zero, i.size, i.bytes)) = some (some (.nilFunc), 1, 8) := by kernel_rfl
theorem ti67 : TiOk Try.prog 67 { size := 1, bytes := 8, zero := [.nilFunc], kind := .cell } := tiOk_mk info67 rfl rfl rfl (by decide) (⟨_, Try.underlying67, fun _ h => TypeDesc.noConfusion h, fun _ _ h => TypeDesc.noConfusion h⟩) (by decide) (fun h => absurd rfl h)
theorem info68 : (Try.prog.info? 68).map (fun i => (i.zero, i.size, i.bytes)) = some (some (.nilFunc), 1, 8) := by kernel_rfl
theorem ti68 : TiOk Try.prog 68 { size := 1, bytes := 8, zero := [.nilFunc], kind := .cell } := tiOk_mk info68 rfl rfl rfl (by decide) (⟨_, Try.underlying68, fun _ h => TypeDesc.noConfusion h, fun _ _ h => TypeDesc.noConfusion h⟩) (by decide) (fun h => absurd rfl h)
theorem info69 : (Try.prog.info? 69).map (fun i => (i.zero, i.size, i.bytes)) = some (some (.pointer none), 1, 8) := by kernel_rfl
theorem ti69 : TiOk Try.prog 69 { size := 1, bytes := 8, zero := [.pointer none], kind := .cell } := tiOk_mk info69 rfl rfl rfl (by decide) (⟨_, Try.underlying69, fun _ h => TypeDesc.noConfusion h, fun _ _ h => TypeDesc.noConfusion h⟩) (by decide) (fun h => absurd rfl h)
theorem info70 : (Try.prog.info? 70).map (fun i => (i.zero, i.size, i.bytes)) = some (some (.nilFunc), 1, 8) := by kernel_rfl
theorem ti70 : TiOk Try.prog 70 { size := 1, bytes := 8, zero := [.nilFunc], kind := .cell } := tiOk_mk info70 rfl rfl rfl (by decide) (⟨_, Try.underlying70, fun _ h => TypeDesc.noConfusion h, fun _ _ h => TypeDesc.noConfusion h⟩) (by decide) (fun h => absurd rfl h)
theorem info71 : (Try.prog.info? 71).map (fun i => (i.zero, i.size, i.bytes)) = some (some (.int .i8 0), 1, 1) := by kernel_rfl
theorem ti71 : TiOk Try.prog 71 { size := 1, bytes := 1, zero := [.int .i8 0], kind := .int .i8 } := tiOk_mk info71 rfl rfl rfl (by decide) (Try.underlying71) (by decide) (fun h => absurd rfl h)
theorem info72 : (Try.prog.info? 72).map (fun i => (i.zero, i.size, i.bytes)) = some (some (.nilFunc), 1, 8) := by kernel_rfl
theorem ti72 : TiOk Try.prog 72 { size := 1, bytes := 8, zero := [.nilFunc], kind := .cell } := tiOk_mk info72 rfl rfl rfl (by decide) (⟨_, Try.underlying72, fun _ h => TypeDesc.noConfusion h, fun _ _ h => TypeDesc.noConfusion h⟩) (by decide) (fun h => absurd rfl h)
theorem info73 : (Try.prog.info? 73).map (fun i => (i.zero, i.size, i.bytes)) = some (some (.nilFunc), 1, 8) := by kernel_rfl
theorem ti73 : TiOk Try.prog 73 { size := 1, bytes := 8, zero := [.nilFunc], kind := .cell } := tiOk_mk info73 rfl rfl rfl (by decide) (⟨_, Try.underlying73, fun _ h => TypeDesc.noConfusion h, fun _ _ h => TypeDesc.noConfusion h⟩) (by decide) (fun h => absurd rfl h)
theorem info74 : (Try.prog.info? 74).map (fun i => (i.zero, i.size, i.bytes)) = some (some (.nilFunc), 1, 8) := by kernel_rfl
theorem ti74 : TiOk Try.prog 74 { size := 1, bytes := 8, zero := [.nilFunc], kind := .cell } := tiOk_mk info74 rfl rfl rfl (by decide) (⟨_, Try.underlying74, fun _ h => TypeDesc.noConfusion h, fun _ _ h => TypeDesc.noConfusion h⟩) (by decide) (fun h => absurd rfl h)
theorem info75 : (Try.prog.info? 75).map (fun i => (i.zero, i.size, i.bytes)) = some (some (.nilFunc), 1, 8) := by kernel_rfl
theorem ti75 : TiOk Try.prog 75 { size := 1, bytes := 8, zero := [.nilFunc], kind := .cell } := tiOk_mk info75 rfl rfl rfl (by decide) (⟨_, Try.underlying75, fun _ h => TypeDesc.noConfusion h, fun _ _ h => TypeDesc.noConfusion h⟩) (by decide) (fun h => absurd rfl h)
theorem info76 : (Try.prog.info? 76).map (fun i => (i.zero, i.size, i.bytes)) = some (some (.pointer none), 1, 8) := by kernel_rfl
theorem ti76 : TiOk Try.prog 76 { size := 1, bytes := 8, zero := [.pointer none], kind := .cell } := tiOk_mk info76 rfl rfl rfl (by decide) (⟨_, Try.underlying76, fun _ h => TypeDesc.noConfusion h, fun _ _ h => TypeDesc.noConfusion h⟩) (by decide) (fun h => absurd rfl h)
theorem info78 : (Try.prog.info? 78).map (fun i => (i.zero, i.size, i.bytes)) = some (some (.nilFunc), 1, 8) := by kernel_rfl
theorem ti78 : TiOk Try.prog 78 { size := 1, bytes := 8, zero := [.nilFunc], kind := .cell } := tiOk_mk info78 rfl rfl rfl (by decide) (⟨_, Try.underlying78, fun _ h => TypeDesc.noConfusion h, fun _ _ h => TypeDesc.noConfusion h⟩) (by decide) (fun h => absurd rfl h)
theorem info79 : (Try.prog.info? 79).map (fun i => (i.zero, i.size, i.bytes)) = some (some (.nilFunc), 1, 8) := by kernel_rfl
theorem ti79 : TiOk Try.prog 79 { size := 1, bytes := 8, zero := [.nilFunc], kind := .cell } := tiOk_mk info79 rfl rfl rfl (by decide) (⟨_, Try.underlying79, fun _ h => TypeDesc.noConfusion h, fun _ _ h => TypeDesc.noConfusion h⟩) (by decide) (fun h => absurd rfl h)
theorem info80 : (Try.prog.info? 80).map (fun i => (i.zero, i.size, i.bytes)) = some (some (.nilFunc), 1, 8) := by kernel_rfl
theorem ti80 : TiOk Try.prog 80 { size := 1, bytes := 8, zero := [.nilFunc], kind := .cell } := tiOk_mk info80 rfl rfl rfl (by decide) (⟨_, Try.underlying80, fun _ h => TypeDesc.noConfusion h, fun _ _ h => TypeDesc.noConfusion h⟩) (by decide) (fun h => absurd rfl h)
theorem info81 : (Try.prog.info? 81).map (fun i => (i.zero, i.size, i.bytes)) = some (some (.agg #[.int .i64 0, .int .i64 0, .int .i64 0, .int .i64 0]), 4, 32) := by kernel_rfl
theorem ti81 : TiOk Try.prog 81 { size := 4, bytes := 32, zero := [.int .i64 0, .int .i64 0, .int .i64 0, .int .i64 0], kind := .struct [(0, 62), (3, 3)] } := tiOk_mk info81 rfl rfl rfl (by decide) (⟨_, Try.underlying81, rfl⟩) (by decide) (fun h => absurd rfl h)
theorem info82 : (Try.prog.info? 82).map (fun i => (i.zero, i.size, i.bytes)) = some (some (.agg #[.int .i64 0, .int .i64 0, .int .i64 0, .int .i64 0]), 4, 32) := by kernel_rfl
theorem ti82 : TiOk Try.prog 82 { size := 4, bytes := 32, zero := [.int .i64 0, .int .i64 0, .int .i64 0, .int .i64 0], kind := .struct [(0, 62), (3, 3)] } := tiOk_mk info82 rfl rfl rfl (by decide) (⟨_, Try.underlying82, rfl⟩) (by decide) (fun h => absurd rfl h)
theorem info84 : (Try.prog.info? 84).map (fun i => (i.zero, i.size, i.bytes)) = some (some (.nilFunc), 1, 8) := by kernel_rfl
theorem ti84 : TiOk Try.prog 84 { size := 1, bytes := 8, zero := [.nilFunc], kind := .cell } := tiOk_mk info84 rfl rfl rfl (by decide) (⟨_, Try.underlying84, fun _ h => TypeDesc.noConfusion h, fun _ _ h => TypeDesc.noConfusion h⟩) (by decide) (fun h => absurd rfl h)
theorem info85 : (Try.prog.info? 85).map (fun i => (i.zero, i.size, i.bytes)) = some (some (.nilFunc), 1, 8) := by kernel_rfl
theorem ti85 : TiOk Try.prog 85 { size := 1, bytes := 8, zero := [.nilFunc], kind := .cell } := tiOk_mk info85 rfl rfl rfl (by decide) (⟨_, Try.underlying85, fun _ h => TypeDesc.noConfusion h, fun _ _ h => TypeDesc.noConfusion h⟩) (by decide) (fun h => absurd rfl h)
theorem info86 : (Try.prog.info? 86).map (fun i => (i.zero, i.size, i.bytes)) = some (some (.nilFunc), 1, 8) := by kernel_rfl
theorem ti86 : TiOk Try.prog 86 { size := 1, bytes := 8, zero := [.nilFunc], kind := .cell } := tiOk_mk info86 rfl rfl rfl (by decide) (⟨_, Try.underlying86, fun _ h => TypeDesc.noConfusion h, fun _ _ h => TypeDesc.noConfusion h⟩) (by decide) (fun h => absurd rfl h)
theorem info87 : (Try.prog.info? 87).map (fun i => (i.zero, i.size, i.bytes)) = some (some (.nilFunc), 1, 8) := by kernel_rfl
theorem ti87 : TiOk Try.prog 87 { size := 1, bytes := 8, zero := [.nilFunc], kind := .cell } := tiOk_mk info87 rfl rfl rfl (by decide) (⟨_, Try.underlying87, fun _ h => TypeDesc.noConfusion h, fun _ _ h => TypeDesc.noConfusion h⟩) (by decide) (fun h => absurd rfl h)
theorem info88 : (Try.prog.info? 88).map (fun i => (i.zero, i.size, i.bytes)) = some (some (.nilFunc), 1, 8) := by kernel_rfl
theorem ti88 : TiOk Try.prog 88 { size := 1, bytes := 8, zero := [.nilFunc], kind := .cell } := tiOk_mk info88 rfl rfl rfl (by decide) (⟨_, Try.underlying88, fun _ h => TypeDesc.noConfusion h, fun _ _ h => TypeDesc.noConfusion h⟩) (by decide) (fun h => absurd rfl h)
theorem info89 : (Try.prog.info? 89).map (fun i => (i.zero, i.size, i.bytes)) = some (some (.slice none 0 0), 1, 24) := by kernel_rfl
theorem ti89 : TiOk Try.prog 89 { size := 1, bytes := 24, zero := [.slice none 0 0], kind := .slice 82 } := tiOk_mk info89 rfl rfl rfl (by decide) (Try.underlying89) (by decide) (fun h => absurd rfl h)
def zer90 : List Value := (List.replicate 25 [.int .i64 0, .int .i64 0]).flatten
theorem info90 : (Try.prog.info? 90).map (fun i => (i.zero, i.size, i.bytes)) = some (some (.agg zer90.toArray), 50, 400) := by kernel_rfl
theorem ti90 : TiOk Try.prog 90 { size := 50, bytes := 400, zero := zer90, kind := .array 25 25 } := tiOk_mk info90 rfl (by kernel_rfl) (by kernel_rfl) (by decide) (Try.underlying90) (by decide) (fun h => absurd rfl h)
def zer91 : List Value := (List.replicate 25 [.int .i64 0, .int .i64 0]).flatten
theorem info91 : (Try.prog.info? 91).map (fun i => (i.zero, i.size, i.bytes)) = some (some (.agg zer91.toArray), 50, 400) := by kernel_rfl
theorem ti91 : TiOk Try.prog 91 { size := 50, bytes := 400, zero := zer91, kind := .array 25 25 } := tiOk_mk info91 rfl (by kernel_rfl) (by kernel_rfl) (by decide) (Try.underlying91) (by decide) (fun h => absurd rfl h)
def zer92 : List Value := [.slice none 0 0] ++ zer91
theorem info92 : (Try.prog.info? 92).map (fun i => (i.zero, i.size, i.bytes)) = some (some (.agg zer92.toArray), 51, 424) := by kernel_rfl
theorem ti92 : TiOk Try.prog 92 { size := 51, bytes := 424, zero := zer92, kind := .struct [(0, 89), (1, 91)] } := tiOk_mk info92 rfl (by kernel_rfl) (by kernel_rfl) (by decide) (⟨_, Try.underlying92, rfl⟩) (by decide) (fun h => absurd rfl h)
def zer93 : List Value := [.slice none 0 0] ++ zer91
theorem info93 : (Try.prog.info? 93).map (fun i => (i.zero, i.size, i.bytes)) = some (some (.agg zer93.toArray), 51, 424) := by kernel_rfl
theorem ti93 : TiOk Try.prog 93 { size := 51, bytes := 424, zero := zer93, kind := .struct [(0, 89), (1, 91)] } := tiOk_mk info93 rfl (by kernel_rfl) (by kernel_rfl) (by decide) (⟨_, Try.underlying93, rfl⟩) (by decide) (fun h => absurd rfl h)
theorem info94 : (Try.prog.info? 94).map (fun i => (i.zero, i.size, i.bytes)) = some (some (.nilFunc), 1, 8) := by kernel_rfl
theorem ti94 : TiOk Try.prog 94 { size := 1, bytes := 8, zero := [.nilFunc], kind := .cell } := tiOk_mk info94 rfl rfl rfl (by decide) (⟨_, Try.underlying94, fun _ h => TypeDesc.noConfusion h, fun _ _ h => TypeDesc.noConfusion h⟩) (by decide) (fun h => absurd rfl h)
theorem info96 : (Try.prog.info? 96).map (fun i => (i.zero, i.size, i.bytes)) = some (some (.nilFunc), 1, 8) := by kernel_rfl
theorem ti96 : TiOk Try.prog 96 { size := 1, bytes := 8, zero := [.nilFunc], kind := .cell } := tiOk_mk info96 rfl rfl rfl (by decide) (⟨_, Try.underlying96, fun _ h => TypeDesc.noConfusion h, fun _ _ h => TypeDesc.noConfusion h⟩) (by decide) (fun h => absurd rfl h)
theorem info97 : (Try.prog.info? 97).map (fun i => (i.zero, i.size, i.bytes)) = some (some (.nilFunc), 1, 8) := by kernel_rfl
theorem ti97 : TiOk Try.prog 97 { size := 1, bytes := 8, zero := [.nilFunc], kind := .cell } := tiOk_mk info97 rfl rfl rfl (by decide) (⟨_, Try.underlying97, fun _ h => TypeDesc.noConfusion h, fun _ _ h => TypeDesc.noConfusion h⟩) (by decide) (fun h => absurd rfl h)
theorem info98 : (Try.prog.info? 98).map (fun i => (i.zero, i.size, i.bytes)) = some (some (.nilFunc), 1, 8) := by kernel_rfl
theorem ti98 : TiOk Try.prog 98 { size := 1, bytes := 8, zero := [.nilFunc], kind := .cell } := tiOk_mk info98 rfl rfl rfl (by decide) (⟨_, Try.underlying98, fun _ h => TypeDesc.noConfusion h, fun _ _ h => TypeDesc.noConfusion h⟩) (by decide) (fun h => absurd rfl h)
theorem info99 : (Try.prog.info? 99).map (fun i => (i.zero, i.size, i.bytes)) = some (some (.nilFunc), 1, 8) := by kernel_rfl
theorem ti99 : TiOk Try.prog 99 { size := 1, bytes := 8, zero := [.nilFunc], kind := .cell } := tiOk_mk info99 rfl rfl rfl (by decide) (⟨_, Try.underlying99, fun _ h => TypeDesc.noConfusion h, fun _ _ h => TypeDesc.noConfusion h⟩) (by decide) (fun h => absurd rfl h)
theorem info100 : (Try.prog.info? 100).map (fun i => (i.zero, i.size, i.bytes)) = some (some (.nilFunc), 1, 8) := by kernel_rfl
theorem ti100 : TiOk Try.prog 100 { size := 1, bytes := 8, zero := [.nilFunc], kind := .cell } := tiOk_mk info100 rfl rfl rfl (by decide) (⟨_, Try.underlying100, fun _ h => TypeDesc.noConfusion h, fun _ _ h => TypeDesc.noConfusion h⟩) (by decide) (fun h => absurd rfl h)
theorem info101 : (Try.prog.info? 101).map (fun i => (i.zero, i.size, i.bytes)) = some (some (.nilFunc), 1, 8) := by kernel_rfl
theorem ti101 : TiOk Try.prog 101 { size := 1, bytes := 8, zero := [.nilFunc], kind := .cell } := tiOk_mk info101 rfl rfl rfl (by decide) (⟨_, Try.underlying101, fun _ h => TypeDesc.noConfusion h, fun _ _ h => TypeDesc.noConfusion h⟩) (by decide) (fun h => absurd rfl h)
theorem info102 : (Try.prog.info? 102).map (fun i => (i.zero, i.size, i.bytes)) = some (some (.nilFunc), 1, 8) := by kernel_rfl
theorem ti102 : TiOk Try.prog 102 { size := 1, bytes := 8, zero := [.nilFunc], kind := .cell } := tiOk_mk info102 rfl rfl rfl (by decide) (⟨_, Try.underlying102, fun _ h => TypeDesc.noConfusion h, fun _ _ h => TypeDesc.noConfusion h⟩) (by decide) (fun h => absurd rfl h)
theorem info103 : (Try.prog.info? 103).map (fun i => (i.zero, i.size, i.bytes)) = some (some (.nilFunc), 1, 8) := by kernel_rfl
theorem ti103 : TiOk Try.prog 103 { size := 1, bytes := 8, zero := [.nilFunc], kind := .cell } := tiOk_mk info103 rfl rfl rfl (by decide) (⟨_, Try.underlying103, fun _ h => TypeDesc.noConfusion h, fun _ _ h => TypeDesc.noConfusion h⟩) (by decide) (fun h => absurd rfl h)
theorem info104 : (Try.prog.info? 104).map (fun i => (i.zero, i.size, i.bytes)) = some (some (.nilFunc), 1, 8) := by kernel_rfl
theorem ti104 : TiOk Try.prog 104 { size := 1, bytes := 8, zero := [.nilFunc], kind := .cell } := tiOk_mk info104 rfl rfl rfl (by decide) (⟨_, Try.underlying104, fun _ h => TypeDesc.noConfusion h, fun _ _ h => TypeDesc.noConfusion h⟩) (by decide) (fun h => absurd rfl h)
theorem info105 : (Try.prog.info? 105).map (fun i => (i.zero, i.size, i.bytes)) = some (some (.nilFunc), 1, 8) := by kernel_rfl
theorem ti105 : TiOk Try.prog 105 { size := 1, bytes := 8, zero := [.nilFunc], kind := .cell } := tiOk_mk info105 rfl rfl rfl (by decide) (⟨_, Try.underlying105, fun _ h => TypeDesc.noConfusion h, fun _ _ h => TypeDesc.noConfusion h⟩) (by decide) (fun h => absurd rfl h)
theorem info106 : (Try.prog.info? 106).map (fun i => (i.zero, i.size, i.bytes)) = some (some (.nilFunc), 1, 8) := by kernel_rfl
theorem ti106 : TiOk Try.prog 106 { size := 1, bytes := 8, zero := [.nilFunc], kind := .cell } := tiOk_mk info106 rfl rfl rfl (by decide) (⟨_, Try.underlying106, fun _ h => TypeDesc.noConfusion h, fun _ _ h => TypeDesc.noConfusion h⟩) (by decide) (fun h => absurd rfl h)
theorem info107 : (Try.prog.info? 107).map (fun i => (i.zero, i.size, i.bytes)) = some (some (.nilFunc), 1, 8) := by kernel_rfl
theorem ti107 : TiOk Try.prog 107 { size := 1, bytes := 8, zero := [.nilFunc], kind := .cell } := tiOk_mk info107 rfl rfl rfl (by decide) (⟨_, Try.underlying107, fun _ h => TypeDesc.noConfusion h, fun _ _ h => TypeDesc.noConfusion h⟩) (by decide) (fun h => absurd rfl h)
theorem info108 : (Try.prog.info? 108).map (fun i => (i.zero, i.size, i.bytes)) = some (some (.nilFunc), 1, 8) := by kernel_rfl
theorem ti108 : TiOk Try.prog 108 { size := 1, bytes := 8, zero := [.nilFunc], kind := .cell } := tiOk_mk info108 rfl rfl rfl (by decide) (⟨_, Try.underlying108, fun _ h => TypeDesc.noConfusion h, fun _ _ h => TypeDesc.noConfusion h⟩) (by decide) (fun h => absurd rfl h)
theorem info109 : (Try.prog.info? 109).map (fun i => (i.zero, i.size, i.bytes)) = some (some (.nilFunc), 1, 8) := by kernel_rfl
theorem ti109 : TiOk Try.prog 109 { size := 1, bytes := 8, zero := [.nilFunc], kind := .cell } := tiOk_mk info109 rfl rfl rfl (by decide) (⟨_, Try.underlying109, fun _ h => TypeDesc.noConfusion h, fun _ _ h => TypeDesc.noConfusion h⟩) (by decide) (fun h => absurd rfl h)
theorem info110 : (Try.prog.info? 110).map (fun i => (i.zero, i.size, i.bytes)) = some (some (.nilFunc), 1, 8) := by kernel_rfl
theorem ti110 : TiOk Try.prog 110 { size := 1, bytes := 8, zero := [.nilFunc], kind := .cell } := tiOk_mk info110 rfl rfl rfl (by decide) (⟨_, Try.underlying110, fun _ h => TypeDesc.noConfusion h, fun _ _ h => TypeDesc.noConfusion h⟩) (by decide) (fun h => absurd rfl h)
theorem info112 : (Try.prog.info? 112).map (fun i => (i.zero, i.size, i.bytes)) = some (some (.nilFunc), 1, 8) := by kernel_rfl
theorem ti112 : TiOk Try.prog 112 { size := 1, bytes := 8, zero := [.nilFunc], kind := .cell } := tiOk_mk info112 rfl rfl rfl (by decide) (⟨_, Try.underlying112, fun _ h => TypeDesc.noConfusion h, fun _ _ h => TypeDesc.noConfusion h⟩) (by decide) (fun h => absurd rfl h)
theorem info113 : (Try.prog.info? 113).map (fun i => (i.zero, i.size, i.bytes)) = some (some (.nilFunc), 1, 8) := by kernel_rfl
theorem ti113 : TiOk Try.prog 113 { size := 1, bytes := 8, zero := [.nilFunc], kind := .cell } := tiOk_mk info113 rfl rfl rfl (by decide) (⟨_, Try.underlying113, fun _ h => TypeDesc.noConfusion h, fun _ _ h => TypeDesc.noConfusion h⟩) (by decide) (fun h => absurd rfl h)
theorem info114 : (Try.prog.info? 114).map (fun i => (i.zero, i.size, i.bytes)) = some (some (.slice none 0 0), 1, 24) := by kernel_rfl
theorem ti114 : TiOk Try.prog 114 { size := 1, bytes := 24, zero := [.slice none 0 0], kind := .slice 2 } := tiOk_mk info114 rfl rfl rfl (by decide) (Try.underlying114) (by decide) (fun h => absurd rfl h)
theorem info115 : (Try.prog.info? 115).map (fun i => (i.zero, i.size, i.bytes)) = some (some (.map none), 1, 8) := by kernel_rfl
theorem ti115 : TiOk Try.prog 115 { size := 1, bytes := 8, zero := [.map none], kind := .cell } := tiOk_mk info115 rfl rfl rfl (by decide) (⟨_, Try.underlying115, fun _ h => TypeDesc.noConfusion h, fun _ _ h => TypeDesc.noConfusion h⟩) (by decide) (fun h => absurd rfl h)
theorem info116 : (Try.prog.info? 116).map (fun i => (i.zero, i.size, i.bytes)) = some (some (.nilFunc), 1, 8) := by kernel_rfl
theorem ti116 : TiOk Try.prog 116 { size := 1, bytes := 8, zero := [.nilFunc], kind := .cell } := tiOk_mk info116 rfl rfl rfl (by decide) (⟨_, Try.underlying116, fun _ h => TypeDesc.noConfusion h, fun _ _ h => TypeDesc.noConfusion h⟩) (by decide) (fun h => absurd rfl h)
theorem info117 : (Try.prog.info? 117).map (fun i => (i.zero, i.size, i.bytes)) = some (some (.nilFunc), 1, 8) := by kernel_rfl
theorem ti117 : TiOk Try.prog 117 { size := 1, bytes := 8, zero := [.nilFunc], kind := .cell } := tiOk_mk info117 rfl rfl rfl (by decide) (⟨_, Try.underlying117, fun _ h => TypeDesc.noConfusion h, fun _ _ h => TypeDesc.noConfusion h⟩) (by decide) (fun h => absurd rfl h)
theorem info118 : (Try.prog.info? 118).map (fun i => (i.zero, i.size, i.bytes)) = some (some (.nilFunc), 1, 8) := by kernel_rfl
theorem ti118 : TiOk Try.prog 118 { size := 1, bytes := 8, zero := [.nilFunc], kind := .cell } := tiOk_mk info118 rfl rfl rfl (by decide) (⟨_, Try.underlying118, fun _ h => TypeDesc.noConfusion h, fun _ _ h => TypeDesc.noConfusion h⟩) (by decide) (fun h => absurd rfl h)
theorem info119 : (Try.prog.info? 119).map (fun i => (i.zero, i.size, i.bytes)) = some (some (.nilFunc), 1, 8) := by kernel_rfl
theorem ti119 : TiOk Try.prog 119 { size := 1, bytes := 8, zero := [.nilFunc], kind := .cell } := tiOk_mk info119 rfl rfl rfl (by decide) (⟨_, Try.underlying119, fun _ h => TypeDesc.noConfusion h, fun _ _ h => TypeDesc.noConfusion h⟩) (by decide) (fun h => absurd rfl h)
theorem info120 : (Try.prog.info? 120).map (fun i => (i.zero, i.size, i.bytes)) = some (some (.nilFunc), 1, 8) := by kernel_rfl
theorem ti120 : TiOk Try.prog 120 { size := 1, bytes := 8, zero := [.nilFunc], kind := .cell } := tiOk_mk info120 rfl rfl rfl (by decide) (⟨_, Try.underlying120, fun _ h => TypeDesc.noConfusion h, fun _ _ h => TypeDesc.noConfusion h⟩) (by decide) (fun h => absurd rfl h)
theorem info122 : (Try.prog.info? 122).map (fun i => (i.zero, i.size, i.bytes)) = some (some (.nilFunc), 1, 8) := by kernel_rfl
theorem ti122 : TiOk Try.prog 122 { size := 1, bytes := 8, zero := [.nilFunc], kind := .cell } := tiOk_mk info122 rfl rfl rfl (by decide) (⟨_, Try.underlying122, fun _ h => TypeDesc.noConfusion h, fun _ _ h => TypeDesc.noConfusion h⟩) (by decide) (fun h => absurd rfl h)
theorem info123 : (Try.prog.info? 123).map (fun i => (i.zero, i.size, i.bytes)) = some (some (.nilFunc), 1, 8) := by kernel_rfl
theorem ti123 : TiOk Try.prog 123 { size := 1, bytes := 8, zero := [.nilFunc], kind := .cell } := tiOk_mk info123 rfl rfl rfl (by decide) (⟨_, Try.underlying123, fun _ h => TypeDesc.noConfusion h, fun _ _ h => TypeDesc.noConfusion h⟩) (by decide) (fun h => absurd rfl h)
theorem info124 : (Try.prog.info? 124).map (fun i => (i.zero, i.size, i.bytes)) = some (some (.nilFunc), 1, 8) := by kernel_rfl
theorem ti124 : TiOk Try.prog 124 { size := 1, bytes := 8, zero := [.nilFunc], kind := .cell } := tiOk_mk info124 rfl rfl rfl (by decide) (⟨_, Try.underlying124, fun _ h => TypeDesc.noConfusion h, fun _ _ h => TypeDesc.noConfusion h⟩) (by decide) (fun h => absurd rfl h)
theorem info125 : (Try.prog.info? 125).map (fun i => (i.zero, i.size, i.bytes)) = some (some (.nilFunc), 1, 8) := by kernel_rfl
theorem ti125 : TiOk Try.prog 125 { size := 1, bytes := 8, zero := [.nilFunc], kind := .cell } := tiOk_mk info125 rfl rfl rfl (by decide) (⟨_, Try.underlying125, fun _ h => TypeDesc.noConfusion h, fun _ _ h => TypeDesc.noConfusion h⟩) (by decide) (fun h => absurd rfl h)
theorem info126 : (Try.prog.info? 126).map (fun i => (i.zero, i.size, i.bytes)) = some (some (.nilFunc), 1, 8) := by kernel_rfl
theorem ti126 : TiOk Try.prog 126 { size := 1, bytes := 8, zero := [.nilFunc], kind := .cell } := tiOk_mk info126 rfl rfl rfl (by decide) (⟨_, Try.underlying126, fun _ h => TypeDesc.noConfusion h, fun _ _ h => TypeDesc.noConfusion h⟩) (by decide) (fun h => absurd rfl h)
theorem info127 : (Try.prog.info? 127).map (fun i => (i.zero, i.size, i.bytes)) = some (some (.nilFunc), 1, 8) := by kernel_rfl
theorem ti127 : TiOk Try.prog 127 { size := 1, bytes := 8, zero := [.nilFunc], kind := .cell } := tiOk_mk info127 rfl rfl rfl (by decide) (⟨_, Try.underlying127, fun _ h => TypeDesc.noConfusion h, fun _ _ h => TypeDesc.noConfusion h⟩) (by decide) (fun h => absurd rfl h)
theorem info128 : (Try.prog.info? 128).map (fun i => (i.zero, i.size, i.bytes)) = some (some (.nilFunc), 1, 8) := by kernel_rfl
theorem ti128 : TiOk Try.prog 128 { size := 1, bytes := 8, zero := [.nilFunc], kind := .cell } := tiOk_mk info128 rfl rfl rfl (by decide) (⟨_, Try.underlying128, fun _ h => TypeDesc.noConfusion h, fun _ _ h => TypeDesc.noConfusion h⟩) (by decide) (fun h => absurd rfl h)
theorem info129 : (Try.prog.info? 129).map (fun i => (i.zero, i.size, i.bytes)) = some (some (.nilFunc), 1, 8) := by kernel_rfl
theorem ti129 : TiOk Try.prog 129 { size := 1, bytes := 8, zero := [.nilFunc], kind := .cell } := tiOk_mk info129 rfl rfl rfl (by decide) (⟨_, Try.underlying129, fun _ h => TypeDesc.noConfusion h, fun _ _ h => TypeDesc.noConfusion h⟩) (by decide) (fun h => absurd rfl h)
theorem info130 : (Try.prog.info? 130).map (fun i => (i.zero, i.size, i.bytes)) = some (some (.nilFunc), 1, 8) := by kernel_rfl
theorem ti130 : TiOk Try.prog 130 { size := 1, bytes := 8, zero := [.nilFunc], kind := .cell } := tiOk_mk info130 rfl rfl rfl (by decide) (⟨_, Try.underlying130, fun _ h => TypeDesc.noConfusion h, fun _ _ h => TypeDesc.noConfusion h⟩) (by decide) (fun h => absurd rfl h)
theorem info131 : (Try.prog.info? 131).map (fun i => (i.zero, i.size, i.bytes)) = some (some (.nilFunc), 1, 8) := by kernel_rfl
theorem ti131 : TiOk Try.prog 131 { size := 1, bytes := 8, zero := [.nilFunc], kind := .cell } := tiOk_mk info131 rfl rfl rfl (by decide) (⟨_, Try.underlying131, fun _ h => TypeDesc.noConfusion h, fun _ _ h => TypeDesc.noConfusion h⟩) (by decide) (fun h => absurd rfl h)
theorem info132 : (Try.prog.info? 132).map (fun i => (i.zero, i.size, i.bytes)) = some (some (.nilFunc), 1, 8) := by kernel_rfl
theorem ti132 : TiOk Try.prog 132 { size := 1, bytes := 8, zero := [.nilFunc], kind := .cell } := tiOk_mk info132 rfl rfl rfl (by decide) (⟨_, Try.underlying132, fun _ h => TypeDesc.noConfusion h, fun _ _ h => TypeDesc.noConfusion h⟩) (by decide) (fun h => absurd rfl h)
theorem info133 : (Try.prog.info? 133).map (fun i => (i.zero, i.size, i.bytes)) = some (some (.nilFunc), 1, 8) := by kernel_rfl
theorem ti133 : TiOk Try.prog 133 { size := 1, bytes := 8, zero := [.nilFunc], kind := .cell } := tiOk_mk info133 rfl rfl rfl (by decide) (⟨_, Try.underlying133, fun _ h => TypeDesc.noConfusion h, fun _ _ h => TypeDesc.noConfusion h⟩) (by decide) (fun h => absurd rfl h)
theorem info134 : (Try.prog.info? 134).map (fun i => (i.zero, i.size, i.bytes)) = some (some (.nilFunc), 1, 8) := by kernel_rfl
theorem ti134 : TiOk Try.prog 134 { size := 1, bytes := 8, zero := [.nilFunc], kind := .cell } := tiOk_mk info134 rfl rfl rfl (by decide) (⟨_, Try.underlying134, fun _ h => TypeDesc.noConfusion h, fun _ _ h => TypeDesc.noConfusion h⟩) (by decide) (fun h => absurd rfl h)
theorem info135 : (Try.prog.info? 135).map (fun i => (i.zero, i.size, i.bytes)) = some (some (.nilFunc), 1, 8) := by kernel_rfl
theorem ti135 : TiOk Try.prog 135 { size := 1, bytes := 8, zero := [.nilFunc], kind := .cell } := tiOk_mk info135 rfl rfl rfl (by decide) (⟨_, Try.underlying135, fun _ h => TypeDesc.noConfusion h, fun _ _ h => TypeDesc.noConfusion h⟩) (by decide) (fun h => absurd rfl h)
theorem info136 : (Try.prog.info? 136).map (fun i => (i.zero, i.size, i.bytes)) = some (some (.nilFunc), 1, 8) := by kernel_rfl
theorem ti136 : TiOk Try.prog 136 { size := 1, bytes := 8, zero := [.nilFunc], kind := .cell } := tiOk_mk info136 rfl rfl rfl (by decide) (⟨_, Try.underlying136, fun _ h => TypeDesc.noConfusion h, fun _ _ h => TypeDesc.noConfusion h⟩) (by decide) (fun h => absurd rfl h)
theorem info137 : (Try.prog.info? 137).map (fun i => (i.zero, i.size, i.bytes)) = some (some (.nilFunc), 1, 8) := by kernel_rfl
theorem ti137 : TiOk Try.prog 137 { size := 1, bytes := 8, zero := [.nilFunc], kind := .cell } := tiOk_mk info137 rfl rfl rfl (by decide) (⟨_, Try.underlying137, fun _ h => TypeDesc.noConfusion h, fun _ _ h => TypeDesc.noConfusion h⟩) (by decide) (fun h => absurd rfl h)
theorem info138 : (Try.prog.info? 138).map (fun i => (i.zero, i.size, i.bytes)) = some (some (.nilFunc), 1, 8) := by kernel_rfl
theorem ti138 : TiOk Try.prog 138 { size := 1, bytes := 8, zero := [.nilFunc], kind := .cell } := tiOk_mk info138 rfl rfl rfl (by decide) (⟨_, Try.underlying138, fun _ h => TypeDesc.noConfusion h, fun _ _ h => TypeDesc.noConfusion h⟩) (by decide) (fun h => absurd rfl h)
theorem info144 : (Try.prog.info? 144).map (fun i => (i.zero, i.size, i.bytes)) = some (some (.nilFunc), 1, 8) := by kernel_rfl
theorem ti144 : TiOk Try.prog 144 { size := 1, bytes := 8, zero := [.nilFunc], kind := .cell } := tiOk_mk info144 rfl rfl rfl (by decide) (⟨_, Try.underlying144, fun _ h => TypeDesc.noConfusion h, fun _ _ h => TypeDesc.noConfusion h⟩) (by decide) (fun h => absurd rfl h)
theorem info145 : (Try.prog.info? 145).map (fun i => (i.zero, i.size, i.bytes)) = some (some (.int .u32 0), 1, 4) := by kernel_rfl
theorem ti145 : TiOk Try.prog 145 { size := 1, bytes := 4, zero := [.int .u32 0], kind := .int .u32 } := tiOk_mk info145 rfl rfl rfl (by decide) (Try.underlying145) (by decide) (fun h => absurd rfl h)
theorem info146 : (Try.prog.info? 146).map (fun i => (i.zero, i.size, i.bytes)) = some (some (.int .u8 0), 1, 1) := by kernel_rfl
theorem ti146 : TiOk Try.prog 146 { size := 1, bytes := 1, zero := [.int .u8 0], kind := .int .u8 } := tiOk_mk info146 rfl rfl rfl (by decide) (Try.underlying146) (by decide) (fun h => absurd rfl h)
theorem info147 : (Try.prog.info? 147).map (fun i => (i.zero, i.size, i.bytes)) = some (some (.int .u8 0), 1, 1) := by kernel_rfl
theorem ti147 : TiOk Try.prog 147 { size := 1, bytes := 1, zero := [.int .u8 0], kind := .int .u8 } := tiOk_mk info147 rfl rfl rfl (by decide) (Try.underlying147) (by decide) (fun h => absurd rfl h)
theorem info148 : (Try.prog.info? 148).map (fun i => (i.zero, i.size, i.bytes)) = some (some (.nilFunc), 1, 8) := by kernel_rfl
theorem ti148 : TiOk Try.prog 148 { size := 1, bytes := 8, zero := [.nilFunc], kind := .cell } := tiOk_mk info148 rfl rfl rfl (by decide) (⟨_, Try.underlying148, fun _ h => TypeDesc.noConfusion h, fun _ _ h => TypeDesc.noConfusion h⟩) (by decide) (fun h => absurd rfl h)
theorem info149 : (Try.prog.info? 149).map (fun i => (i.zero, i.size, i.bytes)) = some (some (.pointer none), 1, 8) := by kernel_rfl
theorem ti149 : TiOk Try.prog 149 { size := 1, bytes := 8, zero := [.pointer none], kind := .cell } := tiOk_mk info149 rfl rfl rfl (by decide) (⟨_, Try.underlying149, fun _ h => TypeDesc.noConfusion h, fun _ _ h => TypeDesc.noConfusion h⟩) (by decide) (fun h => absurd rfl h)
theorem info150 : (Try.prog.info? 150).map (fun i => (i.zero, i.size, i.bytes)) = some (some (.int .i32 0), 1, 4) := by kernel_rfl
theorem ti150 : TiOk Try.prog 150 { size := 1, bytes := 4, zero := [.int .i32 0], kind := .int .i32 } := tiOk_mk info150 rfl rfl rfl (by decide) (Try.underlying150) (by decide) (fun h => absurd rfl h)
theorem info151 : (Try.prog.info? 151).map (fun i => (i.zero, i.size, i.bytes)) = some (some (.int .i32 0), 1, 4) := by kernel_rfl
theorem ti151 : TiOk Try.prog 151 { size := 1, bytes := 4, zero := [.int .i32 0], kind := .int .i32 } := tiOk_mk info151 rfl rfl rfl (by decide) (Try.underlying151) (by decide) (fun h => absurd rfl h)
theorem info152 : (Try.prog.info? 152).map (fun i => (i.zero, i.size, i.bytes)) = some (some (.agg #[.int .u64 0, .int .u64 0, .int .u32 0, .int .u8 0, .int .u8 0, .int .u8 0, .int .u8 0, .nilFunc, .pointer none, .int .i32 0, .int .i32 0]), 11, 48) := by kernel_rfl
theorem ti152 : TiOk Try.prog 152 { size := 11, bytes := 48, zero := [.int .u64 0, .int .u64 0, .int .u32 0, .int .u8 0, .int .u8 0, .int .u8 0, .int .u8 0, .nilFunc, .pointer none, .int .i32 0, .int .i32 0], kind := .struct [(0, 12), (1, 12), (2, 145), (3, 146), (4, 5), (5, 5), (6, 147), (7, 148), (8, 149), (9, 150), (10, 151)] } := tiOk_mk info152 rfl rfl rfl (by decide) (⟨_, Try.underlying152, rfl⟩) (by decide) (fun h => absurd rfl h)
theorem info153 : (Try.prog.info? 153).map (fun i => (i.zero, i.size, i.bytes)) = some (some (.agg #[.int .u64 0, .int .u64 0, .int .u32 0, .int .u8 0, .int .u8 0, .int .u8 0, .int .u8 0, .nilFunc, .pointer none, .int .i32 0, .int .i32 0]), 11, 48) := by kernel_rfl
theorem ti153 : TiOk Try.prog 153 { size := 11, bytes := 48, zero := [.int .u64 0, .int .u64 0, .int .u32 0, .int .u8 0, .int .u8 0, .int .u8 0, .int .u8 0, .nilFunc, .pointer none, .int .i32 0, .int .i32 0], kind := .struct [(0, 12), (1, 12), (2, 145), (3, 146), (4, 5), (5, 5), (6, 147), (7, 148), (8, 149), (9, 150), (10, 151)] } := tiOk_mk info153 rfl rfl rfl (by decide) (⟨_, Try.underlying153, rfl⟩) (by decide) (fun h => absurd rfl h)
def TB : Tab
  | 1 => some { size := 1, bytes := 8, zero := [.nilFunc], kind := .cell }
  | 2 => some { size := 1, bytes := 8, zero := [.int .i64 0], kind := .int .i64 }
  | 3 => some { size := 1, bytes := 8, zero := [.int .i64 0], kind := .int .i64 }
  | 4 => some { size := 1, bytes := 1, zero := [.bool false], kind := .bool }
  | 5 => some { size := 1, bytes := 1, zero := [.int .u8 0], kind := .int .u8 }
  | 6 => some { size := 1, bytes := 1, zero := [.int .u8 0], kind := .int .u8 }
  | 7 => some { size := 4, bytes := 24, zero := [.int .i64 0, .int .i64 0, .bool false, .int .u8 0], kind := .struct [(0, 2), (1, 3), (2, 4), (3, 6)] }
  | 8 => some { size := 4, bytes := 24, zero := [.int .i64 0, .int .i64 0, .bool false, .int .u8 0], kind := .struct [(0, 2), (1, 3), (2, 4), (3, 6)] }
  | 12 => some { size := 1, bytes := 8, zero := [.int .u64 0], kind := .int .u64 }
  | 15 => some { size := 1, bytes := 8, zero := [.pointer none], kind := .cell }
  | 16 => some { size := 1, bytes := 8, zero := [.pointer none], kind := .cell }
  | 17 => some { size := 1, bytes := 8, zero := [.pointer none], kind := .cell }
  | 18 => some { size := 1, bytes := 8, zero := [.pointer none], kind := .struct [(0, 17)] }
  | 19 => some { size := 1, bytes := 8, zero := [.pointer none], kind := .struct [(0, 17)] }
  | 21 => some { size := 1, bytes := 4, zero := [.int .i32 0], kind := .int .i32 }
  | 22 => some { size := 1, bytes := 24, zero := [.slice none 0 0], kind := .slice 62 }
  | 23 => some { size := 1, bytes := 24, zero := [.slice none 0 0], kind := .slice 2 }
  | 24 => some { size := 2, bytes := 16, zero := [.int .i64 0, .int .i64 0], kind := .struct [(0, 2), (1, 2)], eqk := [.i64, .i64] }
  | 25 => some { size := 2, bytes := 16, zero := [.int .i64 0, .int .i64 0], kind := .struct [(0, 2), (1, 2)], eqk := [.i64, .i64] }
  | 26 => some { size := 1, bytes := 24, zero := [.slice none 0 0], kind := .slice 25 }
  | 27 => some { size := 1, bytes := 8, zero := [.nilFunc], kind := .cell }
  | 28 => some { size := 1, bytes := 8, zero := [.nilFunc], kind := .cell }
  | 29 => some { size := 1, bytes := 24, zero := [.slice none 0 0], kind := .slice 3 }
  | 30 => some { size := 1, bytes := 8, zero := [.int .i64 0], kind := .int .i64 }
  | 32 => some { size := 1, bytes := 8, zero := [.nilFunc], kind := .cell }
  | 33 => some { size := 4, bytes := 32, zero := [.int .i64 0, .int .i64 0, .int .i64 0, .int .i64 0], kind := .struct [(0, 25), (2, 25)] }
  | 34 => some { size := 4, bytes := 32, zero := [.int .i64 0, .int .i64 0, .int .i64 0, .int .i64 0], kind := .struct [(0, 25), (2, 25)] }
  | 36 => some { size := 1, bytes := 8, zero := [.nilFunc], kind := .cell }
  | 37 => some { size := 1, bytes := 8, zero := [.nilFunc], kind := .cell }
  | 38 => some { size := 1, bytes := 8, zero := [.nilFunc], kind := .cell }
  | 39 => some { size := 1, bytes := 8, zero := [.nilFunc], kind := .cell }
  | 40 => some { size := 1, bytes := 8, zero := [.nilFunc], kind := .cell }
  | 41 => some { size := 1, bytes := 8, zero := [.nilFunc], kind := .cell }
  | 42 => some { size := 1, bytes := 8, zero := [.nilFunc], kind := .cell }
  | 43 => some { size := 1, bytes := 8, zero := [.nilFunc], kind := .cell }
  | 44 => some { size := 3, bytes := 24, zero := [.int .i64 0, .int .i64 0, .int .i64 0], kind := .array 3 3 }
  | 46 => some { size := 1, bytes := 8, zero := [.nilFunc], kind := .cell }
  | 48 => some { size := 1, bytes := 8, zero := [.nilFunc], kind := .cell }
  | 49 => some { size := 1, bytes := 8, zero := [.nilFunc], kind := .cell }
  | 50 => some { size := 1, bytes := 24, zero := [.slice none 0 0], kind := .slice 65 }
  | 51 => some { size := 3, bytes := 3, zero := [.int .u8 0, .int .u8 0, .int .u8 0], kind := .array 3 5 }
  | 52 => some { size := 1, bytes := 8, zero := [.nilFunc], kind := .cell }
  | 53 => some { size := 1, bytes := 8, zero := [.nilFunc], kind := .cell }
  | 54 => some { size := 1, bytes := 8, zero := [.nilFunc], kind := .cell }
  | 55 => some { size := 1, bytes := 8, zero := [.nilFunc], kind := .cell }
  | 56 => some { size := 1, bytes := 8, zero := [.nilFunc], kind := .cell }
  | 57 => some { size := 1, bytes := 8, zero := [.nilFunc], kind := .cell }
  | 58 => some { size := 1, bytes := 8, zero := [.nilFunc], kind := .cell }
  | 59 => some { size := 2, bytes := 16, zero := [.int .i64 0, .int .i64 0], kind := .struct [(0, 2), (1, 2)], eqk := [.i64, .i64] }
  | 60 => some { size := 2, bytes := 16, zero := [.int .i64 0, .int .i64 0], kind := .struct [(0, 2), (1, 2)], eqk := [.i64, .i64] }
  | 61 => some { size := 3, bytes := 24, zero := [.int .i64 0, .int .i64 0, .int .i64 0], kind := .struct [(0, 2), (1, 60)] }
  | 62 => some { size := 3, bytes := 24, zero := [.int .i64 0, .int .i64 0, .int .i64 0], kind := .struct [(0, 2), (1, 60)] }
  | 63 => some { size := 1, bytes := 8, zero := [.nilFunc], kind := .cell }
  | 64 => some { size := 1, bytes := 8, zero := [.nilFunc], kind := .cell }
  | 65 => some { size := 1, bytes := 2, zero := [.int .u16 0], kind := .int .u16 }
  | 66 => some { size := 2, bytes := 4, zero := [.int .u16 0, .int .u16 0], kind := .array 2 65 }
  | 67 => some { size := 1, bytes := 8, zero := [.nilFunc], kind := .cell }
  | 68 => some { size := 1, bytes := 8, zero := [.nilFunc], kind := .cell }
  | 69 => some { size := 1, bytes := 8, zero := [.pointer none], kind := .cell }
  | 70 => some { size := 1, bytes := 8, zero := [.nilFunc], kind := .cell }
  | 71 => some { size := 1, bytes := 1, zero := [.int .i8 0], kind := .int .i8 }
  | 72 => some { size := 1, bytes := 8, zero := [.nilFunc], kind := .cell }
  | 73 => some { size := 1, bytes := 8, zero := [.nilFunc], kind := .cell }
  | 74 => some { size := 1, bytes := 8, zero := [.nilFunc], kind := .cell }
  | 75 => some { size := 1, bytes := 8, zero := [.nilFunc], kind := .cell }
  | 76 => some { size := 1, bytes := 8, zero := [.pointer none], kind := .cell }
  | 78 => some { size := 1, bytes := 8, zero := [.nilFunc], kind := .cell }
  | 79 => some { size := 1, bytes := 8, zero := [.nilFunc], kind := .cell }
  | 80 => some { size := 1, bytes := 8, zero := [.nilFunc], kind := .cell }
  | 81 => some { size := 4, bytes := 32, zero := [.int .i64 0, .int .i64 0, .int .i64 0, .int .i64 0], kind := .struct [(0, 62), (3, 3)] }
  | 82 => some { size := 4, bytes := 32, zero := [.int .i64 0, .int .i64 0, .int .i64 0, .int .i64 0], kind := .struct [(0, 62), (3, 3)] }
  | 84 => some { size := 1, bytes := 8, zero := [.nilFunc], kind := .cell }
  | 85 => some { size := 1, bytes := 8, zero := [.nilFunc], kind := .cell }
  | 86 => some { size := 1, bytes := 8, zero := [.nilFunc], kind := .cell }
  | 87 => some { size := 1, bytes := 8, zero := [.nilFunc], kind := .cell }
  | 88 => some { size := 1, bytes := 8, zero := [.nilFunc], kind := .cell }
  | 89 => some { size := 1, bytes := 24, zero := [.slice none 0 0], kind := .slice 82 }
  | 90 => some { size := 50, bytes := 400, zero := zer90, kind := .array 25 25 }
  | 91 => some { size := 50, bytes := 400, zero := zer91, kind := .array 25 25 }
  | 92 => some { size := 51, bytes := 424, zero := zer92, kind := .struct [(0, 89), (1, 91)] }
  | 93 => some { size := 51, bytes := 424, zero := zer93, kind := .struct [(0, 89), (1, 91)] }
  | 94 => some { size := 1, bytes := 8, zero := [.nilFunc], kind := .cell }
  | 96 => some { size := 1, bytes := 8, zero := [.nilFunc], kind := .cell }
  | 97 => some { size := 1, bytes := 8, zero := [.nilFunc], kind := .cell }
  | 98 => some { size := 1, bytes := 8, zero := [.nilFunc], kind := .cell }
  | 99 => some { size := 1, bytes := 8, zero := [.nilFunc], kind := .cell }
  | 100 => some { size := 1, bytes := 8, zero := [.nilFunc], kind := .cell }
  | 101 => some { size := 1, bytes := 8, zero := [.nilFunc], kind := .cell }
  | 102 => some { size := 1, bytes := 8, zero := [.nilFunc], kind := .cell }
  | 103 => some { size := 1, bytes := 8, zero := [.nilFunc], kind := .cell }
  | 104 => some { size := 1, bytes := 8, zero := [.nilFunc], kind := .cell }
  | 105 => some { size := 1, bytes := 8, zero := [.nilFunc], kind := .cell }
  | 106 => some { size := 1, bytes := 8, zero := [.nilFunc], kind := .cell }
  | 107 => some { size := 1, bytes := 8, zero := [.nilFunc], kind := .cell }
  | 108 => some { size := 1, bytes := 8, zero := [.nilFunc], kind := .cell }
  | 109 => some { size := 1, bytes := 8, zero := [.nilFunc], kind := .cell }
  | 110 => some { size := 1, bytes := 8, zero := [.nilFunc], kind := .cell }
  | 112 => some { size := 1, bytes := 8, zero := [.nilFunc], kind := .cell }
  | 113 => some { size := 1, bytes := 8, zero := [.nilFunc], kind := .cell }
  | 114 => some { size := 1, bytes := 24, zero := [.slice none 0 0], kind := .slice 2 }
  | 115 => some { size := 1, bytes := 8, zero := [.map none], kind := .cell }
  | 116 => some { size := 1, bytes := 8, zero := [.nilFunc], kind := .cell }
  | 117 => some { size := 1, bytes := 8, zero := [.nilFunc], kind := .cell }
  | 118 => some { size := 1, bytes := 8, zero := [.nilFunc], kind := .cell }
  | 119 => some { size := 1, bytes := 8, zero := [.nilFunc], kind := .cell }
  | 120 => some { size := 1, bytes := 8, zero := [.nilFunc], kind := .cell }
  | 122 => some { size := 1, bytes := 8, zero := [.nilFunc], kind := .cell }
  | 123 => some { size := 1, bytes := 8, zero := [.nilFunc], kind := .cell }
  | 124 => some { size := 1, bytes := 8, zero := [.nilFunc], kind := .cell }
  | 125 => some { size := 1, bytes := 8, zero := [.nilFunc], kind := .cell }
  | 126 => some { size := 1, bytes := 8, zero := [.nilFunc], kind := .cell }
  | 127 => some { size := 1, bytes := 8, zero := [.nilFunc], kind := .cell }
  | 128 => some { size := 1, bytes := 8, zero := [.nilFunc], kind := .cell }
  | 129 => some { size := 1, bytes := 8, zero := [.nilFunc], kind := .cell }
  | 130 => some { size := 1, bytes := 8, zero := [.nilFunc], kind := .cell }
  | 131 => some { size := 1, bytes := 8, zero := [.nilFunc], kind := .cell }
  | 132 => some { size := 1, bytes := 8, zero := [.nilFunc], kind := .cell }
  | 133 => some { size := 1, bytes := 8, zero := [.nilFunc], kind := .cell }
  | 134 => some { size := 1, bytes := 8, zero := [.nilFunc], kind := .cell }
  | 135 => some { size := 1, bytes := 8, zero := [.nilFunc], kind := .cell }
  | 136 => some { size := 1, bytes := 8, zero := [.nilFunc], kind := .cell }
  | 137 => some { size := 1, bytes := 8, zero := [.nilFunc], kind := .cell }
  | 138 => some { size := 1, bytes := 8, zero := [.nilFunc], kind := .cell }
  | 144 => some { size := 1, bytes := 8, zero := [.nilFunc], kind := .cell }
  | 145 => some { size := 1, bytes := 4, zero := [.int .u32 0], kind := .int .u32 }
  | 146 => some { size := 1, bytes := 1, zero := [.int .u8 0], kind := .int .u8 }
  | 147 => some { size := 1, bytes := 1, zero := [.int .u8 0], kind := .int .u8 }
  | 148 => some { size := 1, bytes := 8, zero := [.nilFunc], kind := .cell }
  | 149 => some { size := 1, bytes := 8, zero := [.pointer none], kind := .cell }
  | 150 => some { size := 1, bytes := 4, zero := [.int .i32 0], kind := .int .i32 }
  | 151 => some { size := 1, bytes := 4, zero := [.int .i32 0], kind := .int .i32 }
  | 152 => some { size := 11, bytes := 48, zero := [.int .u64 0, .int .u64 0, .int .u32 0, .int .u8 0, .int .u8 0, .int .u8 0, .int .u8 0, .nilFunc, .pointer none, .int .i32 0, .int .i32 0], kind := .struct [(0, 12), (1, 12), (2, 145), (3, 146), (4, 5), (5, 5), (6, 147), (7, 148), (8, 149), (9, 150), (10, 151)] }
  | 153 => some { size := 11, bytes := 48, zero := [.int .u64 0, .int .u64 0, .int .u32 0, .int .u8 0, .int .u8 0, .int .u8 0, .int .u8 0, .nilFunc, .pointer none, .int .i32 0, .int .i32 0], kind := .struct [(0, 12), (1, 12), (2, 145), (3, 146), (4, 5), (5, 5), (6, 147), (7, 148), (8, 149), (9, 150), (10, 151)] }
  | _ => none
@[simp] theorem TB1 : TB 1 = some { size := 1, bytes := 8, zero := [.nilFunc], kind := .cell } := rfl
@[simp] theorem TB2 : TB 2 = some { size := 1, bytes := 8, zero := [.int .i64 0], kind := .int .i64 } := rfl
@[simp] theorem TB3 : TB 3 = some { size := 1, bytes := 8, zero := [.int .i64 0], kind := .int .i64 } := rfl
@[simp] theorem TB4 : TB 4 = some { size := 1, bytes := 1, zero := [.bool false], kind := .bool } := rfl
@[simp] theorem TB5 : TB 5 = some { size := 1, bytes := 1, zero := [.int .u8 0], kind := .int .u8 } := rfl
@[simp] theorem TB6 : TB 6 = some { size := 1, bytes := 1, zero := [.int .u8 0], kind := .int .u8 } := rfl
@[simp] theorem TB7 : TB 7 = some { size := 4, bytes := 24, zero := [.int .i64 0, .int .i64 0, .bool false, .int .u8 0], kind := .struct [(0, 2), (1, 3), (2, 4), (3, 6)] } := rfl
@[simp] theorem TB8 : TB 8 = some { size := 4, bytes := 24, zero := [.int .i64 0, .int .i64 0, .bool false, .int .u8 0], kind := .struct [(0, 2), (1, 3), (2, 4), (3, 6)] } := rfl
@[simp] theorem TB12 : TB 12 = some { size := 1, bytes := 8, zero := [.int .u64 0], kind := .int .u64 } := rfl
@[simp] theorem TB15 : TB 15 = some { size := 1, bytes := 8, zero := [.pointer none], kind := .cell } := rfl
@[simp] theorem TB16 : TB 16 = some { size := 1, bytes := 8, zero := [.pointer none], kind := .cell } := rfl
@[simp] theorem TB17 : TB 17 = some { size := 1, bytes := 8, zero := [.pointer none], kind := .cell } := rfl
@[simp] theorem TB18 : TB 18 = some { size := 1, bytes := 8, zero := [.pointer none], kind := .struct [(0, 17)] } := rfl
@[simp] theorem TB19 : TB 19 = some { size := 1, bytes := 8, zero := [.pointer none], kind := .struct [(0, 17)] } := rfl
@[simp] theorem TB21 : TB 21 = some { size := 1, bytes := 4, zero := [.int .i32 0], kind := .int .i32 } := rfl
@[simp] theorem TB22 : TB 22 = some { size := 1, bytes := 24, zero := [.slice none 0 0], kind := .slice 62 } := rfl
@[simp] theorem TB23 : TB 23 = some { size := 1, bytes := 24, zero := [.slice none 0 0], kind := .slice 2 } := rfl
@[simp] theorem TB24 : TB 24 = some { size := 2, bytes := 16, zero := [.int .i64 0, .int .i64 0], kind := .struct [(0, 2), (1, 2)], eqk := [.i64, .i64] } := rfl
@[simp] theorem TB25 : TB 25 = some { size := 2, bytes := 16, zero := [.int .i64 0, .int .i64 0], kind := .struct [(0, 2), (1, 2)], eqk := [.i64, .i64] } := rfl
@[simp] theorem TB26 : TB 26 = some { size := 1, bytes := 24, zero := [.slice none 0 0], kind := .slice 25 } := rfl
@[simp] theorem TB27 : TB 27 = some { size := 1, bytes := 8, zero := [.nilFunc], kind := .cell } := rfl
@[simp] theorem TB28 : TB 28 = some { size := 1, bytes := 8, zero := [.nilFunc], kind := .cell } := rfl
@[simp] theorem TB29 : TB 29 = some { size := 1, bytes := 24, zero := [.slice none 0 0], kind := .slice 3 } := rfl
@[simp] theorem TB30 : TB 30 = some { size := 1, bytes := 8, zero := [.int .i64 0], kind := .int .i64 } := rfl
@[simp] theorem TB32 : TB 32 = some { size := 1, bytes := 8, zero := [.nilFunc], kind := .cell } := rfl
@[simp] theorem TB33 : TB 33 = some { size := 4, bytes := 32, zero := [.int .i64 0, .int .i64 0, .int .i64 0, .int .i64 0], kind := .struct [(0, 25), (2, 25)] } := rfl
@[simp] theorem TB34 : TB 34 = some { size := 4, bytes := 32, zero := [.int .i64 0, .int .i64 0, .int .i64 0, .int .i64 0], kind := .struct [(0, 25), (2, 25)] } := rfl
@[simp] theorem TB36 : TB 36 = some { size := 1, bytes := 8, zero := [.nilFunc], kind := .cell } := rfl
@[simp] theorem TB37 : TB 37 = some { size := 1, bytes := 8, zero := [.nilFunc], kind := .cell } := rfl
@[simp] theorem TB38 : TB 38 = some { size := 1, bytes := 8, zero := [.nilFunc], kind := .cell } := rfl
@[simp] theorem TB39 : TB 39 = some { size := 1, bytes := 8, zero := [.nilFunc], kind := .cell } := rfl
@[simp] theorem TB40 : TB 40 = some { size := 1, bytes := 8, zero := [.nilFunc], kind := .cell } := rfl
@[simp] theorem TB41 : TB 41 = some { size := 1, bytes := 8, zero := [.nilFunc], kind := .cell } := rfl
@[simp] theorem TB42 : TB 42 = some { size := 1, bytes := 8, zero := [.nilFunc], kind := .cell } := rfl
@[simp] theorem TB43 : TB 43 = some { size := 1, bytes := 8, zero := [.nilFunc], kind := .cell } := rfl
@[simp] theorem TB44 : TB 44 = some { size := 3, bytes := 24, zero := [.int .i64 0, .int .i64 0, .int .i64 0], kind := .array 3 3 } := rfl
@[simp] theorem TB46 : TB 46 = some { size := 1, bytes := 8, zero := [.nilFunc], kind := .cell } := rfl
@[simp] theorem TB48 : TB 48 = some { size := 1, bytes := 8, zero := [.nilFunc], kind := .cell } := rfl
@[simp] theorem TB49 : TB 49 = some { size := 1, bytes := 8, zero := [.nilFunc], kind := .cell } := rfl
@[simp] theorem TB50 : TB 50 = some { size := 1, bytes := 24, zero := [.slice none 0 0], kind := .slice 65 } := rfl
@[simp] theorem TB51 : TB 51 = some { size := 3, bytes := 3, zero := [.int .u8 0, .int .u8 0, .int .u8 0], kind := .array 3 5 } := rfl
@[simp] theorem TB52 : TB 52 = some { size := 1, bytes := 8, zero := [.nilFunc], kind := .cell } := rfl
@[simp] theorem TB53 : TB 53 = some { size := 1, bytes := 8, zero := [.nilFunc], kind := .cell } := rfl
@[simp] theorem TB54 : TB 54 = some { size := 1, bytes := 8, zero := [.nilFunc], kind := .cell } := rfl
@[simp] theorem TB55 : TB 55 = some { size := 1, bytes := 8, zero := [.nilFunc], kind := .cell } := rfl
@[simp] theorem TB56 : TB 56 = some { size := 1, bytes := 8, zero := [.nilFunc], kind := .cell } := rfl
@[simp] theorem TB57 : TB 57 = some { size := 1, bytes := 8, zero := [.nilFunc], kind := .cell } := rfl
@[simp] theorem TB58 : TB 58 = some { size := 1, bytes := 8, zero := [.nilFunc], kind := .cell } := rfl
@[simp] theorem TB59 : TB 59 = some { size := 2, bytes := 16, zero := [.int .i64 0, .int .i64 0], kind := .struct [(0, 2), (1, 2)], eqk := [.i64, .i64] } := rfl
@[simp] theorem TB60 : TB 60 = some { size := 2, bytes := 16, zero := [.int .i64 0, .int .i64 0], kind := .struct [(0, 2), (1, 2)], eqk := [.i64, .i64] } := rfl
@[simp] theorem TB61 : TB 61 = some { size := 3, bytes := 24, zero := [.int .i64 0, .int .i64 0, .int .i64 0], kind := .struct [(0, 2), (1, 60)] } := rfl
@[simp] theorem TB62 : TB 62 = some { size := 3, bytes := 24, zero := [.int .i64 0, .int .i64 0, .int .i64 0], kind := .struct [(0, 2), (1, 60)] } := rfl
@[simp] theorem TB63 : TB 63 = some { size := 1, bytes := 8, zero := [.nilFunc], kind := .cell } := rfl
@[simp] theorem TB64 : TB 64 = some { size := 1, bytes := 8, zero := [.nilFunc], kind := .cell } := rfl
@[simp] theorem TB65 : TB 65 = some { size := 1, bytes := 2, zero := [.int .u16 0], kind := .int .u16 } := rfl
@[simp] theorem TB66 : TB 66 = some { size := 2, bytes := 4, zero := [.int .u16 0, .int .u16 0], kind := .array 2 65 } := rfl
@[simp] theorem TB67 : TB 67 = some { size := 1, bytes := 8, zero := [.nilFunc], kind := .cell } := rfl
@[simp] theorem TB68 : TB 68 = some { size := 1, bytes := 8, zero := [.nilFunc], kind := .cell } := rfl
@[simp] theorem TB69 : TB 69 = some { size := 1, bytes := 8, zero := [.pointer none], kind := .cell } := rfl
@[simp] theorem TB70 : TB 70 = some { size := 1, bytes := 8, zero := [.nilFunc], kind := .cell } := rfl
@[simp] theorem TB71 : TB 71 = some { size := 1, bytes := 1, zero := [.int .i8 0], kind := .int .i8 } := rfl
@[simp] theorem TB72 : TB 72 = some { size := 1, bytes := 8, zero := [.nilFunc], kind := .cell } := rfl
@[simp] theorem TB73 : TB 73 = some { size := 1, bytes := 8, zero := [.nilFunc], kind := .cell } := rfl
@[simp] theorem TB74 : TB 74 = some { size := 1, bytes := 8, zero := [.nilFunc], kind := .cell } := rfl
@[simp] theorem TB75 : TB 75 = some { size := 1, bytes := 8, zero := [.nilFunc], kind := .cell } := rfl
@[simp] theorem TB76 : TB 76 = some { size := 1, bytes := 8, zero := [.pointer none], kind := .cell } := rfl
@[simp] theorem TB78 : TB 78 = some { size := 1, bytes := 8, zero := [.nilFunc], kind := .cell } := rfl
@[simp] theorem TB79 : TB 79 = some { size := 1, bytes := 8, zero := [.nilFunc], kind := .cell } := rfl
@[simp] theorem TB80 : TB 80 = some { size := 1, bytes := 8, zero := [.nilFunc], kind := .cell } := rfl
@[simp] theorem TB81 : TB 81 = some { size := 4, bytes := 32, zero := [.int .i64 0, .int .i64 0, .int .i64 0, .int .i64 0], kind := .struct [(0, 62), (3, 3)] } := rfl
@[simp] theorem TB82 : TB 82 = some { size := 4, bytes := 32, zero := [.int .i64 0, .int .i64 0, .int .i64 0, .int .i64 0], kind := .struct [(0, 62), (3, 3)] } := rfl
@[simp] theorem TB84 : TB 84 = some { size := 1, bytes := 8, zero := [.nilFunc], kind := .cell } := rfl
@[simp] theorem TB85 : TB 85 = some { size := 1, bytes := 8, zero := [.nilFunc], kind := .cell } := rfl
@[simp] theorem TB86 : TB 86 = some { size := 1, bytes := 8, zero := [.nilFunc], kind := .cell } := rfl
@[simp] theorem TB87 : TB 87 = some { size := 1, bytes := 8, zero := [.nilFunc], kind := .cell } := rfl
@[simp] theorem TB88 : TB 88 = some { size := 1, bytes := 8, zero := [.nilFunc], kind := .cell } := rfl
@[simp] theorem TB89 : TB 89 = some { size := 1, bytes := 24, zero := [.slice none 0 0], kind := .slice 82 } := rfl
@[simp] theorem TB90 : TB 90 = some { size := 50, bytes := 400, zero := zer90, kind := .array 25 25 } := rfl
@[simp] theorem TB91 : TB 91 = some { size := 50, bytes := 400, zero := zer91, kind := .array 25 25 } := rfl
@[simp] theorem TB92 : TB 92 = some { size := 51, bytes := 424, zero := zer92, kind := .struct [(0, 89), (1, 91)] } := rfl
@[simp] theorem TB93 : TB 93 = some { size := 51, bytes := 424, zero := zer93, kind := .struct [(0, 89), (1, 91)] } := rfl
@[simp] theorem TB94 : TB 94 = some { size := 1, bytes := 8, zero := [.nilFunc], kind := .cell } := rfl
@[simp] theorem TB96 : TB 96 = some { size := 1, bytes := 8, zero := [.nilFunc], kind := .cell } := rfl
@[simp] theorem TB97 : TB 97 = some { size := 1, bytes := 8, zero := [.nilFunc], kind := .cell } := rfl
@[simp] theorem TB98 : TB 98 = some { size := 1, bytes := 8, zero := [.nilFunc], kind := .cell } := rfl
@[simp] theorem TB99 : TB 99 = some { size := 1, bytes := 8, zero := [.nilFunc], kind := .cell } := rfl
@[simp] theorem TB100 : TB 100 = some { size := 1, bytes := 8, zero := [.nilFunc], kind := .cell } := rfl
@[simp] theorem TB101 : TB 101 = some { size := 1, bytes := 8, zero := [.nilFunc], kind := .cell } := rfl
@[simp] theorem TB102 : TB 102 = some { size := 1, bytes := 8, zero := [.nilFunc], kind := .cell } := rfl
@[simp] theorem TB103 : TB 103 = some { size := 1, bytes := 8, zero := [.nilFunc], kind := .cell } := rfl
@[simp] theorem TB104 : TB 104 = some { size := 1, bytes := 8, zero := [.nilFunc], kind := .cell } := rfl
@[simp] theorem TB105 : TB 105 = some { size := 1, bytes := 8, zero := [.nilFunc], kind := .cell } := rfl
@[simp] theorem TB106 : TB 106 = some { size := 1, bytes := 8, zero := [.nilFunc], kind := .cell } := rfl
@[simp] theorem TB107 : TB 107 = some { size := 1, bytes := 8, zero := [.nilFunc], kind := .cell } := rfl
@[simp] theorem TB108 : TB 108 = some { size := 1, bytes := 8, zero := [.nilFunc], kind := .cell } := rfl
@[simp] theorem TB109 : TB 109 = some { size := 1, bytes := 8, zero := [.nilFunc], kind := .cell } := rfl
@[simp] theorem TB110 : TB 110 = some { size := 1, bytes := 8, zero := [.nilFunc], kind := .cell } := rfl
@[simp] theorem TB112 : TB 112 = some { size := 1, bytes := 8, zero := [.nilFunc], kind := .cell } := rfl
@[simp] theorem TB113 : TB 113 = some { size := 1, bytes := 8, zero := [.nilFunc], kind := .cell } := rfl
@[simp] theorem TB114 : TB 114 = some { size := 1, bytes := 24, zero := [.slice none 0 0], kind := .slice 2 } := rfl
@[simp] theorem TB115 : TB 115 = some { size := 1, bytes := 8, zero := [.map none], kind := .cell } := rfl
@[simp] theorem TB116 : TB 116 = some { size := 1, bytes := 8, zero := [.nilFunc], kind := .cell } := rfl
@[simp] theorem TB117 : TB 117 = some { size := 1, bytes := 8, zero := [.nilFunc], kind := .cell } := rfl
@[simp] theorem TB118 : TB 118 = some { size := 1, bytes := 8, zero := [.nilFunc], kind := .cell } := rfl
@[simp] theorem TB119 : TB 119 = some { size := 1, bytes := 8, zero := [.nilFunc], kind := .cell } := rfl
@[simp] theorem TB120 : TB 120 = some { size := 1, bytes := 8, zero := [.nilFunc], kind := .cell } := rfl
@[simp] theorem TB122 : TB 122 = some { size := 1, bytes := 8, zero := [.nilFunc], kind := .cell } := rfl
@[simp] theorem TB123 : TB 123 = some { size := 1, bytes := 8, zero := [.nilFunc], kind := .cell } := rfl
@[simp] theorem TB124 : TB 124 = some { size := 1, bytes := 8, zero := [.nilFunc], kind := .cell } := rfl
@[simp] theorem TB125 : TB 125 = some { size := 1, bytes := 8, zero := [.nilFunc], kind := .cell } := rfl
@[simp] theorem TB126 : TB 126 = some { size := 1, bytes := 8, zero := [.nilFunc], kind := .cell } := rfl
@[simp] theorem TB127 : TB 127 = some { size := 1, bytes := 8, zero := [.nilFunc], kind := .cell } := rfl
@[simp] theorem TB128 : TB 128 = some { size := 1, bytes := 8, zero := [.nilFunc], kind := .cell } := rfl
@[simp] theorem TB129 : TB 129 = some { size := 1, bytes := 8, zero := [.nilFunc], kind := .cell } := rfl
@[simp] theorem TB130 : TB 130 = some { size := 1, bytes := 8, zero := [.nilFunc], kind := .cell } := rfl
@[simp] theorem TB131 : TB 131 = some { size := 1, bytes := 8, zero := [.nilFunc], kind := .cell } := rfl
@[simp] theorem TB132 : TB 132 = some { size := 1, bytes := 8, zero := [.nilFunc], kind := .cell } := rfl
@[simp] theorem TB133 : TB 133 = some { size := 1, bytes := 8, zero := [.nilFunc], kind := .cell } := rfl
@[simp] theorem TB134 : TB 134 = some { size := 1, bytes := 8, zero := [.nilFunc], kind := .cell } := rfl
@[simp] theorem TB135 : TB 135 = some { size := 1, bytes := 8, zero := [.nilFunc], kind := .cell } := rfl
@[simp] theorem TB136 : TB 136 = some { size := 1, bytes := 8, zero := [.nilFunc], kind := .cell } := rfl
@[simp] theorem TB137 : TB 137 = some { size := 1, bytes := 8, zero := [.nilFunc], kind := .cell } := rfl
@[simp] theorem TB138 : TB 138 = some { size := 1, bytes := 8, zero := [.nilFunc], kind := .cell } := rfl
@[simp] theorem TB144 : TB 144 = some { size := 1, bytes := 8, zero := [.nilFunc], kind := .cell } := rfl
@[simp] theorem TB145 : TB 145 = some { size := 1, bytes := 4, zero := [.int .u32 0], kind := .int .u32 } := rfl
@[simp] theorem TB146 : TB 146 = some { size := 1, bytes := 1, zero := [.int .u8 0], kind := .int .u8 } := rfl
@[simp] theorem TB147 : TB 147 = some { size := 1, bytes := 1, zero := [.int .u8 0], kind := .int .u8 } := rfl
@[simp] theorem TB148 : TB 148 = some { size := 1, bytes := 8, zero := [.nilFunc], kind := .cell } := rfl
@[simp] theorem TB149 : TB 149 = some { size := 1, bytes := 8, zero := [.pointer none], kind := .cell } := rfl
@[simp] theorem TB150 : TB 150 = some { size := 1, bytes := 4, zero := [.int .i32 0], kind := .int .i32 } := rfl
@[simp] theorem TB151 : TB 151 = some { size := 1, bytes := 4, zero := [.int .i32 0], kind := .int .i32 } := rfl
@[simp] theorem TB152 : TB 152 = some { size := 11, bytes := 48, zero := [.int .u64 0, .int .u64 0, .int .u32 0, .int .u8 0, .int .u8 0, .int .u8 0, .int .u8 0, .nilFunc, .pointer none, .int .i32 0, .int .i32 0], kind := .struct [(0, 12), (1, 12), (2, 145), (3, 146), (4, 5), (5, 5), (6, 147), (7, 148), (8, 149), (9, 150), (10, 151)] } := rfl
@[simp] theorem TB153 : TB 153 = some { size := 11, bytes := 48, zero := [.int .u64 0, .int .u64 0, .int .u32 0, .int .u8 0, .int .u8 0, .int .u8 0, .int .u8 0, .nilFunc, .pointer none, .int .i32 0, .int .i32 0], kind := .struct [(0, 12), (1, 12), (2, 145), (3, 146), (4, 5), (5, 5), (6, 147), (7, 148), (8, 149), (9, 150), (10, 151)] } := rfl
set_option maxRecDepth 20000 in
set_option maxHeartbeats 4000000 in
theorem tabOk : TabOk Try.prog TB := by
  intro t i h
  unfold TB at h
  split at h <;> first
    | (cases h; exact ti1)
    | (cases h; exact ti2)
    | (cases h; exact ti3)
    | (cases h; exact ti4)
    | (cases h; exact ti5)
    | (cases h; exact ti6)
    | (cases h; exact ti7)
    | (cases h; exact ti8)
    | (cases h; exact ti12)
    | (cases h; exact ti15)
    | (cases h; exact ti16)
    | (cases h; exact ti17)
    | (cases h; exact ti18)
    | (cases h; exact ti19)
    | (cases h; exact ti21)
    | (cases h; exact ti22)
    | (cases h; exact ti23)
    | (cases h; exact ti24)
    | (cases h; exact ti25)
    | (cases h; exact ti26)
    | (cases h; exact ti27)
    | (cases h; exact ti28)
    | (cases h; exact ti29)
    | (cases h; exact ti30)
    | (cases h; exact ti32)
    | (cases h; exact ti33)
    | (cases h; exact ti34)
    | (cases h; exact ti36)
    | (cases h; exact ti37)
    | (cases h; exact ti38)
    | (cases h; exact ti39)
    | (cases h; exact ti40)
    | (cases h; exact ti41)
    | (cases h; exact ti42)
    | (cases h; exact ti43)
    | (cases h; exact ti44)
    | (cases h; exact ti46)
    | (cases h; exact ti48)
    | (cases h; exact ti49)
    | (cases h; exact ti50)
    | (cases h; exact ti51)
    | (cases h; exact ti52)
    | (cases h; exact ti53)
    | (cases h; exact ti54)
    | (cases h; exact ti55)
    | (cases h; exact ti56)
    | (cases h; exact ti57)
    | (cases h; exact ti58)
    | (cases h; exact ti59)
    | (cases h; exact ti60)
    | (cases h; exact ti61)
    | (cases h; exact ti62)
    | (cases h; exact ti63)
    | (cases h; exact ti64)
    | (cases h; exact ti65)
    | (cases h; exact ti66)
    | (cases h; exact ti67)
    | (cases h; exact ti68)
    | (cases h; exact ti69)
    | (cases h; exact ti70)
    | (cases h; exact ti71)
    | (cases h; exact ti72)
    | (cases h; exact ti73)
    | (cases h; exact ti74)
    | (cases h; exact ti75)
    | (cases h; exact ti76)
    | (cases h; exact ti78)
    | (cases h; exact ti79)
    | (cases h; exact ti80)
    | (cases h; exact ti81)
    | (cases h; exact ti82)
    | (cases h; exact ti84)
    | (cases h; exact ti85)
    | (cases h; exact ti86)
    | (cases h; exact ti87)
    | (cases h; exact ti88)
    | (cases h; exact ti89)
    | (cases h; exact ti90)
    | (cases h; exact ti91)
    | (cases h; exact ti92)
    | (cases h; exact ti93)
    | (cases h; exact ti94)
    | (cases h; exact ti96)
    | (cases h; exact ti97)
    | (cases h; exact ti98)
    | (cases h; exact ti99)
    | (cases h; exact ti100)
    | (cases h; exact ti101)
    | (cases h; exact ti102)
    | (cases h; exact ti103)
    | (cases h; exact ti104)
    | (cases h; exact ti105)
    | (cases h; exact ti106)
    | (cases h; exact ti107)
    | (cases h; exact ti108)
    | (cases h; exact ti109)
    | (cases h; exact ti110)
    | (cases h; exact ti112)
    | (cases h; exact ti113)
    | (cases h; exact ti114)
    | (cases h; exact ti115)
    | (cases h; exact ti116)
    | (cases h; exact ti117)
    | (cases h; exact ti118)
    | (cases h; exact ti119)
    | (cases h; exact ti120)
    | (cases h; exact ti122)
    | (cases h; exact ti123)
    | (cases h; exact ti124)
    | (cases h; exact ti125)
    | (cases h; exact ti126)
    | (cases h; exact ti127)
    | (cases h; exact ti128)
    | (cases h; exact ti129)
    | (cases h; exact ti130)
    | (cases h; exact ti131)
    | (cases h; exact ti132)
    | (cases h; exact ti133)
    | (cases h; exact ti134)
    | (cases h; exact ti135)
    | (cases h; exact ti136)
    | (cases h; exact ti137)
    | (cases h; exact ti138)
    | (cases h; exact ti144)
    | (cases h; exact ti145)
    | (cases h; exact ti146)
    | (cases h; exact ti147)
    | (cases h; exact ti148)
    | (cases h; exact ti149)
    | (cases h; exact ti150)
    | (cases h; exact ti151)
    | (cases h; exact ti152)
    | (cases h; exact ti153)
    | cases h
end Go.Proofs.Ytjjoiihgpkhndaa.Eng

/-
  The runner for package cross: its maps, its arrays, its ratios.
-/
noncomputable section
namespace Go.Proofs.Ytjjoiihgpkhndaa.Eng
open Go.RowKit
set_option maxRecDepth 100000
theorem kl_piece {P : Program} {d n : Nat} {t : TypeId} {c : CK} (H : KL P d t [c] n) {ls : List Lit} (hc : Conf [c] ls) (o : Nat) (ho : o + n ≤ ls.length) : P.keyLits d t (((ls.map Lit.value).drop o).take n) = some ((ls.drop o).take n) := by
  rw [← List.map_drop, ← List.map_take]
  refine H _ (by rw [List.length_take, List.length_drop]; omega) fun k l hk => ?_
  rw [List.getElem?_take] at hk
  split at hk
  · rw [List.getElem?_drop] at hk
    obtain ⟨x, h1, h2⟩ := hc _ l hk
    refine ⟨x, ?_, h2⟩
    simpa [Nat.mod_one] using h1
  · cases hk
theorem kl_two {P : Program} {t : TypeId} {f0 f1 : Field} {c : CK} {d n0 n1 : Nat} (h : P.underlying t = some (.struct #[f0, f1])) (ht : P.cellsOf t = n0 + n1) (h0 : KL P d f0.type [c] n0) (h1 : KL P d f1.type [c] n1)
    (q0 : f0.name ≠ "_" ∧ f0.offset = 0 ∧ P.cellsOf f0.type = n0) (q1 : f1.name ≠ "_" ∧ f1.offset = n0 ∧ P.cellsOf f1.type = n1) : KL P (d + 1) t [c] (n0 + n1) := fun ls hl hc => by
  have e0 := kl_piece h0 hc 0 (by omega)
  have e1 := kl_piece h1 hc n0 (by omega)
  have hlen : (ls.map Lit.value).length = P.cellsOf t := by rw [List.length_map, hl, ht]
  have hfl : [(ls.drop 0).take n0, (ls.drop n0).take n1].flatten = ls := by
    have a1 : (ls.drop n0).take n1 = ls.drop n0 := List.take_of_length_le (by rw [List.length_drop]; omega)
    simp only [List.flatten_cons, List.flatten_nil, List.append_nil, List.drop_zero, a1]
    rw [List.take_append_drop]
  have hm : ([f0, f1].mapM fun f => P.keyLits d f.type (((ls.map Lit.value).drop f.offset).take (P.cellsOf f.type))) = some [(ls.drop 0).take n0, (ls.drop n0).take n1] := by
    obtain ⟨_, o0, z0⟩ := q0
    obtain ⟨_, o1, z1⟩ := q1
    simp only [List.mapM_cons, List.mapM_nil, o0, z0, o1, z1, e0, e1]
    rfl
  have hall : (#[f0, f1] : Array Field).all (·.name != "_") = true := by simp [q0.1, q1.1]
  simp only [Program.keyLits, h, hlen, hall, and_self, if_true]
  rw [hm, Option.map_some, hfl]
def ZT : ZTab := fun _ => none
def QT : QTab := fun t => if t = 25 then some ⟨[.int .i64], 2⟩ else if t = 34 then some ⟨[.int .i64], 4⟩ else if t = 44 then some ⟨[.int .i64], 3⟩ else none
def MT : MTab := fun t => if t = 115 then some ⟨3, 2, .d (.val (.int .i64 0)), false, [.i64]⟩ else none
theorem noGor : NoGor Try.prog := noGor_of (by decide +kernel)
theorem mixed : Try.prog.follows .mixedOrders = true := by decide +kernel
theorem ztOk : ZTabOk TB ZT := fun t p h => by cases h
theorem kl_ratio (d : Nat) : KL Try.prog (d + 2) 25 [.int .i64] 2 := kl_two (d := d + 1) (n0 := 1) (n1 := 1) Try.underlying25 (by decide +kernel) (kl_int Try.underlying2 d) (kl_int Try.underlying2 d) ⟨by decide, rfl, by decide +kernel⟩ ⟨by decide, rfl, by decide +kernel⟩
theorem qtOk : QTabOk Try.prog QT := fun t b h => by
  unfold QT at h
  split at h
  · rename_i e
    subst e
    cases h
    refine ⟨kl_ratio 5, by decide +kernel, by decide +kernel, fun xs hx => ?_⟩
    have e1 : Try.prog.cellsOf 25 = 2 := by decide +kernel
    simp [Value.formed, Try.underlying25, e1, hx]
  split at h
  · rename_i e
    subst e
    cases h
    refine ⟨?_, by decide +kernel, by decide +kernel, fun xs hx => ?_⟩
    · exact kl_two (d := 6) (n0 := 2) (n1 := 2) Try.underlying34 (by decide +kernel) (kl_ratio 4) (kl_ratio 4) ⟨by decide, rfl, by decide +kernel⟩ ⟨by decide, rfl, by decide +kernel⟩
    · have e1 : Try.prog.cellsOf 34 = 4 := by decide +kernel
      simp [Value.formed, Try.underlying34, e1, hx]
  split at h
  · rename_i e
    subst e
    cases h
    refine ⟨?_, by decide +kernel, by decide +kernel, fun xs hx => ?_⟩
    · exact kl_array (n := 3) (d := 6) (per := [.int .i64]) Try.underlying44 (by decide +kernel) (by decide +kernel) (kl_int Try.underlying3 5)
    · have e1 : Try.prog.cellsOf 44 = 3 := by decide +kernel
      simp [Value.formed, Try.underlying44, e1, hx]
  · cases h
theorem mtOk : MTabOk Try.prog MT := fun t i h => by
  unfold MT at h
  split at h
  · rename_i e
    subst e
    cases h
    refine mapOk_int (q := .i64) Try.underlying115 Try.underlying3 rfl rfl ⟨.int .i64 0, fun w => ?_, fun E w => rep_val rfl⟩
    have h := info2
    rw [Option.map_eq_some_iff] at h
    obtain ⟨inf, h1, h2⟩ := h
    simp only [Prod.mk.injEq] at h2
    simp [zeroValue, typeInfo, h1, h2.1]
  · cases h
abbrev SMS : Sums := noS
theorem smsOk : SumsOk Try.prog SMS := noS_ok
end Go.Proofs.Ytjjoiihgpkhndaa.Eng
