/-
  A part of the texts that the claim builds on: see the last one.
-/
import Derived.Test.YtnhhlmikkmjenaaDk6
set_option linter.unusedSimpArgs false
set_option linter.unusedVariables false
/-
  A call that is known: written by gen/wk.py.
-/
namespace Go.Proofs.Ytnhhlmikkmjenaa.Eng
open Go.RowKit
set_option maxRecDepth 100000
def wa3 : Ent := ⟨18, [(.agg [(.sl 9 0 4 (some 4)), (.d (.val (.int .i64 10)))]), (.sl 99 0 4 (some 4))], 100, (.nd none (.nd none (.nd none .lf (.nd none (.nd none (.nd none .lf (.nd (some (.bx none 2 4 [(.d (.val (.int .i64 0))), (.d (.val (.int .i64 (-3)))), (.d (.val (.int .i64 0))), (.d (.val (.int .i64 0)))] .lf false)) .lf .lf)) .lf) .lf)) (.nd none (.nd (some (.bx none 60 16 [(.d (.val (.int .i64 0))), (.d (.val (.int .i64 (-1)))), (.d (.val (.int .i64 1))), (.d (.val (.int .i64 1))), (.d (.val (.int .i64 4))), (.d (.val (.int .i64 (-1)))), (.d (.val (.int .i64 1))), (.d (.val (.int .i64 1))), (.d (.val (.int .i64 5))), (.d (.val (.int .i64 (-1)))), (.d (.val (.int .i64 1))), (.d (.val (.int .i64 1))), (.d (.val (.int .i64 1))), (.d (.val (.int .i64 (-1)))), (.d (.val (.int .i64 1))), (.d (.val (.int .i64 1)))] .lf false)) .lf .lf) .lf)) .lf), ⟨(.tup [(.d (.val (.int .i64 0))), (.d (.val (.int .i64 18)))]), 158, (.nd none (.nd none (.nd none .lf (.nd none (.nd none (.nd none .lf (.nd (some (.bx none 2 4 [(.d (.val (.int .i64 0))), (.d (.val (.int .i64 (-3)))), (.d (.val (.int .i64 0))), (.d (.val (.int .i64 0)))] .lf false)) .lf .lf)) .lf) .lf)) (.nd none (.nd (some (.bx none 60 16 [(.d (.val (.int .i64 0))), (.d (.val (.int .i64 (-1)))), (.d (.val (.int .i64 1))), (.d (.val (.int .i64 1))), (.d (.val (.int .i64 4))), (.d (.val (.int .i64 (-1)))), (.d (.val (.int .i64 1))), (.d (.val (.int .i64 1))), (.d (.val (.int .i64 5))), (.d (.val (.int .i64 (-1)))), (.d (.val (.int .i64 1))), (.d (.val (.int .i64 1))), (.d (.val (.int .i64 1))), (.d (.val (.int .i64 (-1)))), (.d (.val (.int .i64 1))), (.d (.val (.int .i64 1)))] .lf false)) .lf .lf) .lf)) .lf)⟩⟩
theorem wa3_ok : Calls2 Try.prog wa3.f wa3.args wa3.n wa3.m wa3.q := chk_ok (fuel := 600) tabOk ztOk qtOk mtOk known_nil noGor mixed (by decide +kernel)
end Go.Proofs.Ytnhhlmikkmjenaa.Eng
