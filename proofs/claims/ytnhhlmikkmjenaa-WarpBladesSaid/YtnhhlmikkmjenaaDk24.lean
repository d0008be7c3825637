/-
  A part of the texts that the claim builds on: see the last one.
-/
import Derived.Test.YtnhhlmikkmjenaaDk23
set_option linter.unusedSimpArgs false
set_option linter.unusedVariables false
/-
  A call that is known: written by gen/wk.py.
-/
namespace Go.Proofs.Ytnhhlmikkmjenaa.Eng
open Go.RowKit
set_option maxRecDepth 100000
def wa12 : Ent := ⟨32, [(.agg [(.sl 9 0 4 (some 4)), (.d (.val (.int .i64 10)))]), (.d (.val (.int .i64 0))), (.d (.val (.int .i64 1)))], 13072, (.nd none (.nd none .lf (.nd none (.nd (some (.bx none 60 16 [(.d (.val (.int .i64 0))), (.d (.val (.int .i64 (-1)))), (.d (.val (.int .i64 1))), (.d (.val (.int .i64 1))), (.d (.val (.int .i64 4))), (.d (.val (.int .i64 (-1)))), (.d (.val (.int .i64 1))), (.d (.val (.int .i64 1))), (.d (.val (.int .i64 5))), (.d (.val (.int .i64 (-1)))), (.d (.val (.int .i64 1))), (.d (.val (.int .i64 1))), (.d (.val (.int .i64 1))), (.d (.val (.int .i64 (-1)))), (.d (.val (.int .i64 1))), (.d (.val (.int .i64 1)))] .lf false)) .lf .lf) .lf)) .lf), ⟨(.tup [(.d (.val (.int .i64 8))), (.d (.val (.int .i64 0)))]), 13470, (.nd none (.nd none .lf (.nd none (.nd (some (.bx none 60 16 [(.d (.val (.int .i64 0))), (.d (.val (.int .i64 (-1)))), (.d (.val (.int .i64 1))), (.d (.val (.int .i64 1))), (.d (.val (.int .i64 4))), (.d (.val (.int .i64 (-1)))), (.d (.val (.int .i64 1))), (.d (.val (.int .i64 1))), (.d (.val (.int .i64 5))), (.d (.val (.int .i64 (-1)))), (.d (.val (.int .i64 1))), (.d (.val (.int .i64 1))), (.d (.val (.int .i64 1))), (.d (.val (.int .i64 (-1)))), (.d (.val (.int .i64 1))), (.d (.val (.int .i64 1)))] .lf false)) .lf .lf) .lf)) .lf)⟩⟩
theorem wa12_ok : Calls2 Try.prog wa12.f wa12.args wa12.n wa12.m wa12.q := chk_ok (fuel := 600) tabOk ztOk qtOk mtOk known_nil noGor mixed (by decide +kernel)
end Go.Proofs.Ytnhhlmikkmjenaa.Eng
