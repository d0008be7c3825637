/-
  A part of the texts that the claim builds on: see the last one.
-/
import Derived.Test.YtjjoiihgpkhndaaDm10
set_option linter.unusedSimpArgs false
set_option linter.unusedVariables false
/-
  A call that is known: written by gen/wk.py.
-/
namespace Go.Proofs.Ytjjoiihgpkhndaa.Eng
open Go.RowKit
set_option maxRecDepth 100000
def ca5 : Ent := ⟨34, [(.sl 20 0 4 (some 4))], 1334, (.nd none .lf (.nd none (.nd none .lf (.nd none (.nd (some (.bx none 62 12 [(.d (.val (.int .i64 0))), (.d (.val (.int .i64 0))), (.d (.val (.int .i64 0))), (.d (.val (.int .i64 10))), (.d (.val (.int .i64 (-2)))), (.d (.val (.int .i64 2))), (.d (.val (.int .i64 20))), (.d (.val (.int .i64 0))), (.d (.val (.int .i64 1))), (.d (.val (.int .i64 40))), (.d (.val (.int .i64 8))), (.d (.val (.int .i64 10)))] .lf false)) .lf .lf) .lf)) .lf)), ⟨(.tup [(.sl 1597 0 4 (some 4)), (.d (.val (.int .i64 0)))]), 1599, (.nd none (.nd none .lf (.nd none .lf (.nd none .lf (.nd none .lf (.nd none .lf (.nd none (.nd none (.nd none (.nd none .lf (.nd (some (.bx none 25 8 [(.d (.val (.int .i64 0))), (.d (.val (.int .i64 0)))] (.nd (some (.d (.val (.int .i64 0)))) (.nd (some (.d (.val (.int .i64 1)))) (.nd (some (.d (.val (.int .i64 2)))) (.nd (some (.d (.val (.int .i64 1)))) .lf .lf) .lf) (.nd (some (.d (.val (.int .i64 1)))) .lf .lf)) (.nd (some (.d (.val (.int .i64 1)))) (.nd (some (.d (.val (.int .i64 1)))) .lf .lf) (.nd (some (.d (.val (.int .i64 10)))) .lf .lf))) false)) .lf .lf)) .lf) .lf) .lf)))))) (.nd none (.nd none .lf (.nd none (.nd (some (.bx none 62 12 [(.d (.val (.int .i64 0))), (.d (.val (.int .i64 0))), (.d (.val (.int .i64 0))), (.d (.val (.int .i64 10))), (.d (.val (.int .i64 (-2)))), (.d (.val (.int .i64 2))), (.d (.val (.int .i64 20))), (.d (.val (.int .i64 0))), (.d (.val (.int .i64 1))), (.d (.val (.int .i64 40))), (.d (.val (.int .i64 8))), (.d (.val (.int .i64 10)))] .lf false)) .lf .lf) .lf)) .lf))⟩⟩
theorem ca5_ok : Calls2 Try.prog ca5.f ca5.args ca5.n ca5.m ca5.q := chkW_ok (fuel := 600) tabOk ztOk qtOk mtOk (known_sums smsOk) noGor mixed (by decide +kernel)
end Go.Proofs.Ytjjoiihgpkhndaa.Eng
