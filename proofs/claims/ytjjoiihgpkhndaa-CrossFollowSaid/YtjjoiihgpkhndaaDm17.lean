/-
  A part of the texts that the claim builds on: see the last one.
-/
import Derived.Test.YtjjoiihgpkhndaaDm16
set_option linter.unusedSimpArgs false
set_option linter.unusedVariables false
/-
  A call that is known: written by gen/wk.py.
-/
namespace Go.Proofs.Ytjjoiihgpkhndaa.Eng
open Go.RowKit
set_option maxRecDepth 100000
def ca11 : Ent := ⟨17, [(.sl 20 0 4 (some 4)), (.sl 2212 0 4 (some 4)), (.d (.val (.int .i64 1)))], 2213, (.nd none .lf (.nd none (.nd none .lf (.nd none (.nd (some (.bx none 62 12 [(.d (.val (.int .i64 0))), (.d (.val (.int .i64 0))), (.d (.val (.int .i64 0))), (.d (.val (.int .i64 10))), (.d (.val (.int .i64 (-2)))), (.d (.val (.int .i64 2))), (.d (.val (.int .i64 20))), (.d (.val (.int .i64 0))), (.d (.val (.int .i64 1))), (.d (.val (.int .i64 40))), (.d (.val (.int .i64 8))), (.d (.val (.int .i64 10)))] .lf false)) (.nd none .lf (.nd none (.nd none .lf (.nd none (.nd none (.nd none (.nd (some (.bx none 2 4 [(.d (.val (.int .i64 0))), (.d (.val (.int .i64 2))), (.d (.val (.int .i64 1))), (.d (.val (.int .i64 9)))] .lf false)) .lf .lf) .lf) .lf) .lf)) .lf)) .lf) .lf)) .lf)), ⟨(.tup [(.agg [(.d (.val (.int .i64 0))), (.d (.val (.int .i64 0))), (.d (.val (.int .i64 0))), (.d (.val (.int .i64 0)))]), (.d (.val (.int .i64 22)))]), 2322, (.nd none .lf (.nd none (.nd none .lf (.nd none (.nd (some (.bx none 62 12 [(.d (.val (.int .i64 0))), (.d (.val (.int .i64 0))), (.d (.val (.int .i64 0))), (.d (.val (.int .i64 10))), (.d (.val (.int .i64 (-2)))), (.d (.val (.int .i64 2))), (.d (.val (.int .i64 20))), (.d (.val (.int .i64 0))), (.d (.val (.int .i64 1))), (.d (.val (.int .i64 40))), (.d (.val (.int .i64 8))), (.d (.val (.int .i64 10)))] .lf false)) (.nd none .lf (.nd none (.nd none .lf (.nd none (.nd none (.nd none (.nd (some (.bx none 2 4 [(.d (.val (.int .i64 0))), (.d (.val (.int .i64 2))), (.d (.val (.int .i64 1))), (.d (.val (.int .i64 9)))] .lf false)) .lf .lf) .lf) .lf) .lf)) .lf)) .lf) .lf)) .lf))⟩⟩
theorem ca11_ok : Calls2 Try.prog ca11.f ca11.args ca11.n ca11.m ca11.q := chkW_ok (fuel := 600) tabOk ztOk qtOk mtOk (known_sums smsOk) noGor mixed (by decide +kernel)
end Go.Proofs.Ytjjoiihgpkhndaa.Eng
