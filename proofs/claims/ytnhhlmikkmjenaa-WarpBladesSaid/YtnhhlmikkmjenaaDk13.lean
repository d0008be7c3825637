/-
  A part of the texts that the claim builds on: see the last one.
-/
import Derived.Test.YtnhhlmikkmjenaaDk12
set_option linter.unusedSimpArgs false
set_option linter.unusedVariables false
/-
  A call that is known: written by gen/wk.py.
-/
namespace Go.Proofs.Ytnhhlmikkmjenaa.Eng
open Go.RowKit
set_option maxRecDepth 100000
def wa9 : Ent := ⟨34, [(.agg [(.sl 9 0 4 (some 4)), (.d (.val (.int .i64 10)))]), (.sl 2119 0 4 (some 4))], 2120, (.nd none (.nd none (.nd none (.nd none .lf (.nd none (.nd none (.nd none .lf (.nd none (.nd none (.nd none (.nd none (.nd (some (.bx none 2 4 [(.d (.val (.int .i64 0))), (.d (.val (.int .i64 0))), (.d (.val (.int .i64 (-2)))), (.d (.val (.int .i64 1)))] .lf false)) .lf .lf) .lf) .lf) .lf) .lf)) .lf) .lf)) .lf) (.nd none (.nd (some (.bx none 60 16 [(.d (.val (.int .i64 0))), (.d (.val (.int .i64 (-1)))), (.d (.val (.int .i64 1))), (.d (.val (.int .i64 1))), (.d (.val (.int .i64 4))), (.d (.val (.int .i64 (-1)))), (.d (.val (.int .i64 1))), (.d (.val (.int .i64 1))), (.d (.val (.int .i64 5))), (.d (.val (.int .i64 (-1)))), (.d (.val (.int .i64 1))), (.d (.val (.int .i64 1))), (.d (.val (.int .i64 1))), (.d (.val (.int .i64 (-1)))), (.d (.val (.int .i64 1))), (.d (.val (.int .i64 1)))] .lf false)) .lf .lf) .lf)) .lf), ⟨(.tup [(.d (.val (.int .i64 6))), (.d (.val (.int .i64 0)))]), 2198, (.nd none (.nd none (.nd none (.nd none .lf (.nd none (.nd none (.nd none .lf (.nd none (.nd none (.nd none (.nd none (.nd (some (.bx none 2 4 [(.d (.val (.int .i64 0))), (.d (.val (.int .i64 0))), (.d (.val (.int .i64 (-2)))), (.d (.val (.int .i64 1)))] .lf false)) .lf .lf) .lf) .lf) .lf) .lf)) .lf) .lf)) .lf) (.nd none (.nd (some (.bx none 60 16 [(.d (.val (.int .i64 0))), (.d (.val (.int .i64 (-1)))), (.d (.val (.int .i64 1))), (.d (.val (.int .i64 1))), (.d (.val (.int .i64 4))), (.d (.val (.int .i64 (-1)))), (.d (.val (.int .i64 1))), (.d (.val (.int .i64 1))), (.d (.val (.int .i64 5))), (.d (.val (.int .i64 (-1)))), (.d (.val (.int .i64 1))), (.d (.val (.int .i64 1))), (.d (.val (.int .i64 1))), (.d (.val (.int .i64 (-1)))), (.d (.val (.int .i64 1))), (.d (.val (.int .i64 1)))] .lf false)) .lf .lf) .lf)) .lf)⟩⟩
theorem wa9_ok : Calls2 Try.prog wa9.f wa9.args wa9.n wa9.m wa9.q := chk_ok (fuel := 600) tabOk ztOk qtOk mtOk known_nil noGor mixed (by decide +kernel)
end Go.Proofs.Ytnhhlmikkmjenaa.Eng
