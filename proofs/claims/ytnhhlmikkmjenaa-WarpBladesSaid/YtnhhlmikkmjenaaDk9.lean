/-
  A part of the texts that the claim builds on: see the last one.
-/
import Derived.Test.YtnhhlmikkmjenaaDk8
set_option linter.unusedSimpArgs false
set_option linter.unusedVariables false
/-
  A call that is known: written by gen/wk.py.
-/
namespace Go.Proofs.Ytnhhlmikkmjenaa.Eng
open Go.RowKit
set_option maxRecDepth 100000
def wa5 : Ent := ⟨26, [(.agg [(.sl 686 0 4 (some 4)), (.d (.val (.int .i64 10)))])], 692, (.nd none .lf (.nd none .lf (.nd none .lf (.nd none .lf (.nd none (.nd none .lf (.nd none (.nd none .lf (.nd none (.nd (some (.bx none 60 16 [(.d (.val (.int .i64 0))), (.d (.val (.int .i64 (-1)))), (.d (.val (.int .i64 1))), (.d (.val (.int .i64 1))), (.d (.val (.int .i64 4))), (.d (.val (.int .i64 (-1)))), (.d (.val (.int .i64 1))), (.d (.val (.int .i64 1))), (.d (.val (.int .i64 5))), (.d (.val (.int .i64 (-1)))), (.d (.val (.int .i64 1))), (.d (.val (.int .i64 1))), (.d (.val (.int .i64 1))), (.d (.val (.int .i64 (-1)))), (.d (.val (.int .i64 1))), (.d (.val (.int .i64 1)))] (.nd none (.nd none (.nd none (.nd (some (.d (.val (.int .i64 3)))) .lf .lf) .lf) .lf) .lf) false)) .lf .lf) .lf)) .lf)) .lf))))), ⟨(.tup [(.sl 1220 0 4 (some 4)), (.d (.val (.int .i64 10))), (.d (.val (.int .i64 0)))]), 1222, (.nd none .lf (.nd none (.nd none .lf (.nd none (.nd none (.nd none (.nd none .lf (.nd none .lf (.nd none (.nd none (.nd (some (.bx none 2 4 [(.d (.val (.int .i64 0)))] (.nd (some (.d (.val (.int .i64 (-1))))) (.nd (some (.d (.val (.int .i64 (-2))))) (.nd (some (.d (.val (.int .i64 2)))) .lf .lf) .lf) (.nd (some (.d (.val (.int .i64 (-1))))) .lf .lf)) false)) .lf .lf) .lf) .lf))) .lf) .lf) .lf)) (.nd none .lf (.nd none .lf (.nd none (.nd none .lf (.nd none (.nd none .lf (.nd none (.nd (some (.bx none 60 16 [(.d (.val (.int .i64 0))), (.d (.val (.int .i64 (-1)))), (.d (.val (.int .i64 1))), (.d (.val (.int .i64 1))), (.d (.val (.int .i64 4))), (.d (.val (.int .i64 (-1)))), (.d (.val (.int .i64 1))), (.d (.val (.int .i64 1))), (.d (.val (.int .i64 5))), (.d (.val (.int .i64 (-1)))), (.d (.val (.int .i64 1))), (.d (.val (.int .i64 1))), (.d (.val (.int .i64 1))), (.d (.val (.int .i64 (-1)))), (.d (.val (.int .i64 1))), (.d (.val (.int .i64 1)))] (.nd none (.nd none (.nd none (.nd (some (.d (.val (.int .i64 3)))) .lf .lf) .lf) .lf) .lf) false)) .lf .lf) .lf)) .lf)) .lf)))))⟩⟩
theorem wa5_ok : Calls2 Try.prog wa5.f wa5.args wa5.n wa5.m wa5.q := chk_ok (fuel := 600) tabOk ztOk qtOk mtOk known_nil noGor mixed (by decide +kernel)
end Go.Proofs.Ytnhhlmikkmjenaa.Eng
