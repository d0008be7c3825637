/-
  A part of the texts that the claim builds on: see the last one.
-/
import Derived.Test.YtnhhlmikkmjenaaDk25
set_option linter.unusedSimpArgs false
set_option linter.unusedVariables false
/-
  A call that is known: written by gen/wk.py.
-/
namespace Go.Proofs.Ytnhhlmikkmjenaa.Eng
open Go.RowKit
set_option maxRecDepth 100000
def wa14 : Ent := ⟨35, [(.agg [(.sl 9 0 4 (some 4)), (.d (.val (.int .i64 10)))]), (.sl 12555 0 4 (some 4))], 13497, (.nd none (.nd none (.nd none .lf (.nd none .lf (.nd none (.nd none (.nd none (.nd none (.nd none .lf (.nd none (.nd none (.nd none (.nd none .lf (.nd (some (.bx none 2 4 [(.d (.val (.int .i64 0)))] (.nd (some (.d (.val (.int .i64 0)))) (.nd (some (.d (.val (.int .i64 0)))) (.nd (some (.d (.val (.int .i64 1)))) .lf .lf) .lf) (.nd (some (.d (.val (.int .i64 (-2))))) .lf .lf)) false)) .lf .lf)) .lf) .lf) .lf)) .lf) .lf) .lf) .lf))) (.nd none (.nd (some (.bx none 60 16 [(.d (.val (.int .i64 0))), (.d (.val (.int .i64 (-1)))), (.d (.val (.int .i64 1))), (.d (.val (.int .i64 1))), (.d (.val (.int .i64 4))), (.d (.val (.int .i64 (-1)))), (.d (.val (.int .i64 1))), (.d (.val (.int .i64 1))), (.d (.val (.int .i64 5))), (.d (.val (.int .i64 (-1)))), (.d (.val (.int .i64 1))), (.d (.val (.int .i64 1))), (.d (.val (.int .i64 1))), (.d (.val (.int .i64 (-1)))), (.d (.val (.int .i64 1))), (.d (.val (.int .i64 1)))] .lf false)) .lf .lf) .lf)) .lf), ⟨(.tup [(.d (.val (.int .i64 6))), (.d (.val (.int .i64 0)))]), 13535, (.nd none (.nd none (.nd none .lf (.nd none .lf (.nd none (.nd none (.nd none (.nd none (.nd none .lf (.nd none (.nd none (.nd none (.nd none .lf (.nd (some (.bx none 2 4 [(.d (.val (.int .i64 0)))] (.nd (some (.d (.val (.int .i64 0)))) (.nd (some (.d (.val (.int .i64 0)))) (.nd (some (.d (.val (.int .i64 1)))) .lf .lf) .lf) (.nd (some (.d (.val (.int .i64 (-2))))) .lf .lf)) false)) .lf .lf)) .lf) .lf) .lf)) .lf) .lf) .lf) .lf))) (.nd none (.nd (some (.bx none 60 16 [(.d (.val (.int .i64 0))), (.d (.val (.int .i64 (-1)))), (.d (.val (.int .i64 1))), (.d (.val (.int .i64 1))), (.d (.val (.int .i64 4))), (.d (.val (.int .i64 (-1)))), (.d (.val (.int .i64 1))), (.d (.val (.int .i64 1))), (.d (.val (.int .i64 5))), (.d (.val (.int .i64 (-1)))), (.d (.val (.int .i64 1))), (.d (.val (.int .i64 1))), (.d (.val (.int .i64 1))), (.d (.val (.int .i64 (-1)))), (.d (.val (.int .i64 1))), (.d (.val (.int .i64 1)))] .lf false)) .lf .lf) .lf)) .lf)⟩⟩
theorem wa14_ok : Calls2 Try.prog wa14.f wa14.args wa14.n wa14.m wa14.q := chk_ok (fuel := 600) tabOk ztOk qtOk mtOk known_nil noGor mixed (by decide +kernel)
end Go.Proofs.Ytnhhlmikkmjenaa.Eng
