/-
  A part of the texts that the claim builds on: see the last one.
-/
import Derived.Test.YtnhhlmikkmjenaaDk7
set_option linter.unusedSimpArgs false
set_option linter.unusedVariables false
/-
  A call that is known: written by gen/wk.py.
-/
namespace Go.Proofs.Ytnhhlmikkmjenaa.Eng
open Go.RowKit
set_option maxRecDepth 100000
def wa4 : Ent := ⟨26, [(.agg [(.sl 9 0 4 (some 4)), (.d (.val (.int .i64 10)))])], 158, (.nd none (.nd none .lf (.nd none (.nd (some (.bx none 60 16 [(.d (.val (.int .i64 0))), (.d (.val (.int .i64 (-1)))), (.d (.val (.int .i64 1))), (.d (.val (.int .i64 1))), (.d (.val (.int .i64 4))), (.d (.val (.int .i64 (-1)))), (.d (.val (.int .i64 1))), (.d (.val (.int .i64 1))), (.d (.val (.int .i64 5))), (.d (.val (.int .i64 (-1)))), (.d (.val (.int .i64 1))), (.d (.val (.int .i64 1))), (.d (.val (.int .i64 1))), (.d (.val (.int .i64 (-1)))), (.d (.val (.int .i64 1))), (.d (.val (.int .i64 1)))] .lf false)) .lf .lf) .lf)) .lf), ⟨(.tup [(.sl 674 0 4 (some 4)), (.d (.val (.int .i64 6))), (.d (.val (.int .i64 0)))]), 676, (.nd none (.nd none .lf (.nd none (.nd (some (.bx none 60 16 [(.d (.val (.int .i64 0))), (.d (.val (.int .i64 (-1)))), (.d (.val (.int .i64 1))), (.d (.val (.int .i64 1))), (.d (.val (.int .i64 4))), (.d (.val (.int .i64 (-1)))), (.d (.val (.int .i64 1))), (.d (.val (.int .i64 1))), (.d (.val (.int .i64 5))), (.d (.val (.int .i64 (-1)))), (.d (.val (.int .i64 1))), (.d (.val (.int .i64 1))), (.d (.val (.int .i64 1))), (.d (.val (.int .i64 (-1)))), (.d (.val (.int .i64 1))), (.d (.val (.int .i64 1)))] .lf false)) .lf .lf) .lf)) (.nd none .lf (.nd none (.nd none (.nd none (.nd none .lf (.nd none (.nd none .lf (.nd none (.nd (some (.bx none 2 4 [(.d (.val (.int .i64 0)))] (.nd (some (.d (.val (.int .i64 (-1))))) (.nd (some (.d (.val (.int .i64 (-3))))) (.nd (some (.d (.val (.int .i64 2)))) .lf .lf) .lf) (.nd (some (.d (.val (.int .i64 0)))) .lf .lf)) false)) .lf .lf) .lf)) .lf)) .lf) .lf) .lf)))⟩⟩
theorem wa4_ok : Calls2 Try.prog wa4.f wa4.args wa4.n wa4.m wa4.q := chk_ok (fuel := 600) tabOk ztOk qtOk mtOk known_nil noGor mixed (by decide +kernel)
end Go.Proofs.Ytnhhlmikkmjenaa.Eng
