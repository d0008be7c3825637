/-
  A part of the texts that the claim builds on: see the last one.
-/
import Derived.Test.YtnhhlmikkmjenaaDk4
set_option linter.unusedSimpArgs false
set_option linter.unusedVariables false
/-
  A call that is known: written by gen/wk.py.
-/
namespace Go.Proofs.Ytnhhlmikkmjenaa.Eng
open Go.RowKit
set_option maxRecDepth 100000
def wa1 : Ent := ⟨16, [(.agg [(.sl 9 0 4 (some 4)), (.d (.val (.int .i64 10)))]), (.sl 13 0 4 (some 4))], 14, (.nd none (.nd none .lf (.nd none (.nd (some (.bx none 60 16 [(.d (.val (.int .i64 0))), (.d (.val (.int .i64 (-1)))), (.d (.val (.int .i64 1))), (.d (.val (.int .i64 1))), (.d (.val (.int .i64 4))), (.d (.val (.int .i64 (-1)))), (.d (.val (.int .i64 1))), (.d (.val (.int .i64 1))), (.d (.val (.int .i64 5))), (.d (.val (.int .i64 (-1)))), (.d (.val (.int .i64 1))), (.d (.val (.int .i64 1))), (.d (.val (.int .i64 1))), (.d (.val (.int .i64 (-1)))), (.d (.val (.int .i64 1))), (.d (.val (.int .i64 1)))] .lf false)) .lf .lf) (.nd (some (.bx none 2 4 [(.d (.val (.int .i64 0))), (.d (.val (.int .i64 (-3)))), (.d (.val (.int .i64 (-1)))), (.d (.val (.int .i64 2)))] .lf false)) .lf .lf))) .lf), ⟨(.tup [(.sl 33 0 4 (some 4)), (.d (.val (.int .i64 0)))]), 38, (.nd none (.nd none .lf (.nd none (.nd (some (.bx none 60 16 [(.d (.val (.int .i64 0))), (.d (.val (.int .i64 (-1)))), (.d (.val (.int .i64 1))), (.d (.val (.int .i64 1))), (.d (.val (.int .i64 4))), (.d (.val (.int .i64 (-1)))), (.d (.val (.int .i64 1))), (.d (.val (.int .i64 1))), (.d (.val (.int .i64 5))), (.d (.val (.int .i64 (-1)))), (.d (.val (.int .i64 1))), (.d (.val (.int .i64 1))), (.d (.val (.int .i64 1))), (.d (.val (.int .i64 (-1)))), (.d (.val (.int .i64 1))), (.d (.val (.int .i64 1)))] .lf false)) (.nd none (.nd (some (.bx none 2 4 [(.d (.val (.int .i64 0)))] (.nd (some (.d (.val (.int .i64 0)))) (.nd (some (.d (.val (.int .i64 1)))) (.nd (some (.d (.val (.int .i64 (-1))))) .lf .lf) .lf) (.nd (some (.d (.val (.int .i64 1)))) .lf .lf)) false)) .lf .lf) .lf) .lf) (.nd (some (.bx none 2 4 [(.d (.val (.int .i64 0))), (.d (.val (.int .i64 (-3)))), (.d (.val (.int .i64 (-1)))), (.d (.val (.int .i64 2)))] .lf false)) .lf .lf))) .lf)⟩⟩
theorem wa1_ok : Calls2 Try.prog wa1.f wa1.args wa1.n wa1.m wa1.q := chk_ok (fuel := 600) tabOk ztOk qtOk mtOk known_nil noGor mixed (by decide +kernel)
end Go.Proofs.Ytnhhlmikkmjenaa.Eng
