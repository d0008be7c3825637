/-
  A part of the texts that the claim builds on: see the last one.
-/
import Derived.Test.YtjjoiihgpkhndaaDm19
set_option linter.unusedSimpArgs false
set_option linter.unusedVariables false
/-
  A call that is known: written by gen/wk.py.
-/
namespace Go.Proofs.Ytjjoiihgpkhndaa.Eng
open Go.RowKit
set_option maxRecDepth 100000
def ca14 : Ent := ⟨22, [(.sl 20 0 4 (some 4)), (.sl 2813 0 4 (some 4))], 2814, (.nd none (.nd none .lf (.nd none .lf (.nd none .lf (.nd none .lf (.nd none .lf (.nd none .lf (.nd none .lf (.nd none (.nd none .lf (.nd none (.nd (some (.bx none 25 8 [(.d (.val (.int .i64 0))), (.d (.val (.int .i64 1))), (.d (.val (.int .i64 1))), (.d (.val (.int .i64 1))), (.d (.val (.int .i64 1))), (.d (.val (.int .i64 1))), (.d (.val (.int .i64 10))), (.d (.val (.int .i64 1)))] .lf false)) .lf .lf) .lf)) .lf)))))))) (.nd none (.nd none .lf (.nd none (.nd (some (.bx none 62 12 [(.d (.val (.int .i64 0))), (.d (.val (.int .i64 0))), (.d (.val (.int .i64 0))), (.d (.val (.int .i64 10))), (.d (.val (.int .i64 (-2)))), (.d (.val (.int .i64 2))), (.d (.val (.int .i64 20))), (.d (.val (.int .i64 0))), (.d (.val (.int .i64 1))), (.d (.val (.int .i64 40))), (.d (.val (.int .i64 8))), (.d (.val (.int .i64 10)))] .lf false)) .lf .lf) .lf)) .lf)), ⟨(.d (.val (.int .i64 22))), 2954, (.nd none (.nd none .lf (.nd none .lf (.nd none .lf (.nd none .lf (.nd none .lf (.nd none .lf (.nd none .lf (.nd none (.nd none .lf (.nd none (.nd (some (.bx none 25 8 [(.d (.val (.int .i64 0))), (.d (.val (.int .i64 1))), (.d (.val (.int .i64 1))), (.d (.val (.int .i64 1))), (.d (.val (.int .i64 1))), (.d (.val (.int .i64 1))), (.d (.val (.int .i64 10))), (.d (.val (.int .i64 1)))] .lf false)) .lf .lf) .lf)) .lf)))))))) (.nd none (.nd none .lf (.nd none (.nd (some (.bx none 62 12 [(.d (.val (.int .i64 0))), (.d (.val (.int .i64 0))), (.d (.val (.int .i64 0))), (.d (.val (.int .i64 10))), (.d (.val (.int .i64 (-2)))), (.d (.val (.int .i64 2))), (.d (.val (.int .i64 20))), (.d (.val (.int .i64 0))), (.d (.val (.int .i64 1))), (.d (.val (.int .i64 40))), (.d (.val (.int .i64 8))), (.d (.val (.int .i64 10)))] .lf false)) .lf .lf) .lf)) .lf))⟩⟩
theorem ca14_ok : Calls2 Try.prog ca14.f ca14.args ca14.n ca14.m ca14.q := chkW_ok (fuel := 600) tabOk ztOk qtOk mtOk (known_sums smsOk) noGor mixed (by decide +kernel)
end Go.Proofs.Ytjjoiihgpkhndaa.Eng
