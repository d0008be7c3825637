/-
  A part of the texts that the claim builds on: see the last one.
-/
import Derived.Test.YtnhhlmikkmjenaaDk9
set_option linter.unusedSimpArgs false
set_option linter.unusedVariables false
/-
  A call that is known: written by gen/wk.py.
-/
namespace Go.Proofs.Ytnhhlmikkmjenaa.Eng
open Go.RowKit
set_option maxRecDepth 100000
def wa6 : Ent := ⟨26, [(.agg [(.sl 1232 0 4 (some 4)), (.d (.val (.int .i64 1)))])], 1238, (.nd none .lf (.nd none (.nd none (.nd none (.nd none .lf (.nd none (.nd none .lf (.nd none .lf (.nd none (.nd none (.nd (some (.bx none 60 16 [(.d (.val (.int .i64 0))), (.d (.val (.int .i64 (-1)))), (.d (.val (.int .i64 1))), (.d (.val (.int .i64 1))), (.d (.val (.int .i64 4))), (.d (.val (.int .i64 (-1)))), (.d (.val (.int .i64 1))), (.d (.val (.int .i64 1))), (.d (.val (.int .i64 5))), (.d (.val (.int .i64 (-1)))), (.d (.val (.int .i64 1))), (.d (.val (.int .i64 1))), (.d (.val (.int .i64 1))), (.d (.val (.int .i64 (-1)))), (.d (.val (.int .i64 1))), (.d (.val (.int .i64 1)))] .lf false)) .lf .lf) .lf) .lf))) .lf)) .lf) .lf) .lf)), ⟨(.tup [.nilS, (.d (.val (.int .i64 0))), (.d (.val (.int .i64 18)))]), 1544, (.nd none .lf (.nd none (.nd none (.nd none (.nd none .lf (.nd none (.nd none .lf (.nd none .lf (.nd none (.nd none (.nd (some (.bx none 60 16 [(.d (.val (.int .i64 0))), (.d (.val (.int .i64 (-1)))), (.d (.val (.int .i64 1))), (.d (.val (.int .i64 1))), (.d (.val (.int .i64 4))), (.d (.val (.int .i64 (-1)))), (.d (.val (.int .i64 1))), (.d (.val (.int .i64 1))), (.d (.val (.int .i64 5))), (.d (.val (.int .i64 (-1)))), (.d (.val (.int .i64 1))), (.d (.val (.int .i64 1))), (.d (.val (.int .i64 1))), (.d (.val (.int .i64 (-1)))), (.d (.val (.int .i64 1))), (.d (.val (.int .i64 1)))] .lf false)) .lf .lf) .lf) .lf))) .lf)) .lf) .lf) .lf))⟩⟩
theorem wa6_ok : Calls2 Try.prog wa6.f wa6.args wa6.n wa6.m wa6.q := chk_ok (fuel := 600) tabOk ztOk qtOk mtOk known_nil noGor mixed (by decide +kernel)
end Go.Proofs.Ytnhhlmikkmjenaa.Eng
