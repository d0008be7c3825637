/-
  A part of the texts that the claim builds on: see the last one.
-/
import Derived.Test.YtjjoiihgpkhndaaDn1
set_option linter.unusedSimpArgs false
set_option linter.unusedVariables false
/-
  A call that is known: written by gen/wk.py.
-/
namespace Go.Proofs.Ytjjoiihgpkhndaa.Eng
open Go.RowKit
set_option maxRecDepth 100000
def cb2 : Ent := ⟨15, [(.sl 20 0 4 (some 4)), (.sl 21 0 4 (some 4)), (.agg [(.d (.val (.int .i64 2))), (.d (.val (.int .i64 1)))])], 169, (.nd none (.nd none .lf (.nd none .lf (.nd none (.nd (some (.bx none 2 4 [(.d (.val (.int .i64 0))), (.d (.val (.int .i64 (-1)))), (.d (.val (.int .i64 1))), (.d (.val (.int .i64 9)))] .lf false)) .lf .lf) .lf))) (.nd none (.nd none .lf (.nd none (.nd (some (.bx none 62 12 [(.d (.val (.int .i64 0))), (.d (.val (.int .i64 0))), (.d (.val (.int .i64 0))), (.d (.val (.int .i64 10))), (.d (.val (.int .i64 (-2)))), (.d (.val (.int .i64 2))), (.d (.val (.int .i64 20))), (.d (.val (.int .i64 0))), (.d (.val (.int .i64 1))), (.d (.val (.int .i64 40))), (.d (.val (.int .i64 8))), (.d (.val (.int .i64 10)))] .lf false)) .lf .lf) .lf)) .lf)), ⟨(.tup [(.sl 312 0 1 (some 1)), (.d (.val (.int .i64 0)))]), 314, (.nd none (.nd none .lf (.nd none .lf (.nd none (.nd (some (.bx none 2 4 [(.d (.val (.int .i64 0))), (.d (.val (.int .i64 (-1)))), (.d (.val (.int .i64 1))), (.d (.val (.int .i64 9)))] .lf false)) .lf .lf) .lf))) (.nd none (.nd none (.nd none .lf (.nd none .lf (.nd none .lf (.nd none (.nd none (.nd (some (.bx none 3 1 [(.d (.val (.int .i64 0)))] (.nd (some (.d (.val (.int .i64 3)))) .lf .lf) false)) .lf .lf) .lf) .lf)))) (.nd none (.nd (some (.bx none 62 12 [(.d (.val (.int .i64 0))), (.d (.val (.int .i64 0))), (.d (.val (.int .i64 0))), (.d (.val (.int .i64 10))), (.d (.val (.int .i64 (-2)))), (.d (.val (.int .i64 2))), (.d (.val (.int .i64 20))), (.d (.val (.int .i64 0))), (.d (.val (.int .i64 1))), (.d (.val (.int .i64 40))), (.d (.val (.int .i64 8))), (.d (.val (.int .i64 10)))] .lf false)) .lf .lf) .lf)) .lf))⟩⟩
theorem cb2_ok : Calls2 Try.prog cb2.f cb2.args cb2.n cb2.m cb2.q := chkW_ok (fuel := 600) tabOk ztOk qtOk mtOk (known_sums smsOk) noGor mixed (by decide +kernel)
end Go.Proofs.Ytjjoiihgpkhndaa.Eng
