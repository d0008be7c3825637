/-
  A part of the texts that the claim builds on: see the last one.
-/
import Derived.Test.YtjjoiihgpkhndaaDm21
set_option linter.unusedSimpArgs false
set_option linter.unusedVariables false
/-
  A call that is known: written by gen/wk.py.
-/
namespace Go.Proofs.Ytjjoiihgpkhndaa.Eng
open Go.RowKit
set_option maxRecDepth 100000
def cb1 : Ent := ⟨15, [(.sl 20 0 4 (some 4)), (.sl 21 0 4 (some 4)), (.agg [(.d (.val (.int .i64 0))), (.d (.val (.int .i64 1)))])], 24, (.nd none (.nd none .lf (.nd none .lf (.nd none (.nd (some (.bx none 2 4 [(.d (.val (.int .i64 0))), (.d (.val (.int .i64 (-1)))), (.d (.val (.int .i64 1))), (.d (.val (.int .i64 9)))] .lf false)) .lf .lf) .lf))) (.nd none (.nd none .lf (.nd none (.nd (some (.bx none 62 12 [(.d (.val (.int .i64 0))), (.d (.val (.int .i64 0))), (.d (.val (.int .i64 0))), (.d (.val (.int .i64 10))), (.d (.val (.int .i64 (-2)))), (.d (.val (.int .i64 2))), (.d (.val (.int .i64 20))), (.d (.val (.int .i64 0))), (.d (.val (.int .i64 1))), (.d (.val (.int .i64 40))), (.d (.val (.int .i64 8))), (.d (.val (.int .i64 10)))] .lf false)) .lf .lf) .lf)) .lf)), ⟨(.tup [(.sl 165 0 1 (some 1)), (.d (.val (.int .i64 0)))]), 167, (.nd none (.nd none .lf (.nd none .lf (.nd none (.nd (some (.bx none 2 4 [(.d (.val (.int .i64 0))), (.d (.val (.int .i64 (-1)))), (.d (.val (.int .i64 1))), (.d (.val (.int .i64 9)))] .lf false)) (.nd none .lf (.nd none (.nd (some (.bx none 3 1 [(.d (.val (.int .i64 0)))] (.nd (some (.d (.val (.int .i64 1)))) .lf .lf) false)) .lf .lf) .lf)) .lf) .lf))) (.nd none (.nd none .lf (.nd none (.nd (some (.bx none 62 12 [(.d (.val (.int .i64 0))), (.d (.val (.int .i64 0))), (.d (.val (.int .i64 0))), (.d (.val (.int .i64 10))), (.d (.val (.int .i64 (-2)))), (.d (.val (.int .i64 2))), (.d (.val (.int .i64 20))), (.d (.val (.int .i64 0))), (.d (.val (.int .i64 1))), (.d (.val (.int .i64 40))), (.d (.val (.int .i64 8))), (.d (.val (.int .i64 10)))] .lf false)) .lf .lf) .lf)) .lf))⟩⟩
theorem cb1_ok : Calls2 Try.prog cb1.f cb1.args cb1.n cb1.m cb1.q := chkW_ok (fuel := 600) tabOk ztOk qtOk mtOk (known_sums smsOk) noGor mixed (by decide +kernel)
end Go.Proofs.Ytjjoiihgpkhndaa.Eng
