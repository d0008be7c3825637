/-
  A part of the texts that the claim builds on: see the last one.
-/
import Derived.Test.YtnhhlmikkmjenaaDk11
set_option linter.unusedSimpArgs false
set_option linter.unusedVariables false
/-
  A call that is known: written by gen/wk.py.
-/
namespace Go.Proofs.Ytnhhlmikkmjenaa.Eng
open Go.RowKit
set_option maxRecDepth 100000
def wa8 : Ent := ⟨28, [(.agg [(.sl 9 0 4 (some 4)), (.d (.val (.int .i64 10)))]), (.d (.val (.int .i64 1)))], 1621, (.nd none (.nd none .lf (.nd none (.nd (some (.bx none 60 16 [(.d (.val (.int .i64 0))), (.d (.val (.int .i64 (-1)))), (.d (.val (.int .i64 1))), (.d (.val (.int .i64 1))), (.d (.val (.int .i64 4))), (.d (.val (.int .i64 (-1)))), (.d (.val (.int .i64 1))), (.d (.val (.int .i64 1))), (.d (.val (.int .i64 5))), (.d (.val (.int .i64 (-1)))), (.d (.val (.int .i64 1))), (.d (.val (.int .i64 1))), (.d (.val (.int .i64 1))), (.d (.val (.int .i64 (-1)))), (.d (.val (.int .i64 1))), (.d (.val (.int .i64 1)))] .lf false)) .lf .lf) .lf)) .lf), ⟨(.tup [(.agg [(.d (.val (.int .i64 (-5)))), (.d (.val (.int .i64 (-3))))]), (.d (.val (.int .i64 0)))]), 2117, (.nd none (.nd none .lf (.nd none (.nd (some (.bx none 60 16 [(.d (.val (.int .i64 0))), (.d (.val (.int .i64 (-1)))), (.d (.val (.int .i64 1))), (.d (.val (.int .i64 1))), (.d (.val (.int .i64 4))), (.d (.val (.int .i64 (-1)))), (.d (.val (.int .i64 1))), (.d (.val (.int .i64 1))), (.d (.val (.int .i64 5))), (.d (.val (.int .i64 (-1)))), (.d (.val (.int .i64 1))), (.d (.val (.int .i64 1))), (.d (.val (.int .i64 1))), (.d (.val (.int .i64 (-1)))), (.d (.val (.int .i64 1))), (.d (.val (.int .i64 1)))] .lf false)) .lf .lf) .lf)) .lf)⟩⟩
theorem wa8_ok : Calls2 Try.prog wa8.f wa8.args wa8.n wa8.m wa8.q := chk_ok (fuel := 600) tabOk ztOk qtOk mtOk known_nil noGor mixed (by decide +kernel)
end Go.Proofs.Ytnhhlmikkmjenaa.Eng
