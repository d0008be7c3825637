/-
  A part of the texts that the claim builds on: see the last one.
-/
import Derived.Test.YtjjoiihgpkhndaaDm14
set_option linter.unusedSimpArgs false
set_option linter.unusedVariables false
/-
  A call that is known: written by gen/wk.py.
-/
namespace Go.Proofs.Ytjjoiihgpkhndaa.Eng
open Go.RowKit
set_option maxRecDepth 100000
def ca9 : Ent := ⟨15, [(.sl 20 0 4 (some 4)), (.sl 1953 0 4 (some 4)), (.agg [(.d (.val (.int .i64 1))), (.d (.val (.int .i64 5)))])], 1956, (.nd none (.nd none .lf (.nd none (.nd none (.nd none (.nd none .lf (.nd none (.nd none .lf (.nd none .lf (.nd none .lf (.nd (some (.bx none 2 4 [(.d (.val (.int .i64 0))), (.d (.val (.int .i64 (-1)))), (.d (.val (.int .i64 1))), (.d (.val (.int .i64 9)))] .lf false)) .lf .lf)))) .lf)) .lf) .lf) .lf)) (.nd none (.nd none .lf (.nd none (.nd (some (.bx none 62 12 [(.d (.val (.int .i64 0))), (.d (.val (.int .i64 0))), (.d (.val (.int .i64 0))), (.d (.val (.int .i64 10))), (.d (.val (.int .i64 (-2)))), (.d (.val (.int .i64 2))), (.d (.val (.int .i64 20))), (.d (.val (.int .i64 0))), (.d (.val (.int .i64 1))), (.d (.val (.int .i64 40))), (.d (.val (.int .i64 8))), (.d (.val (.int .i64 10)))] .lf false)) .lf .lf) .lf)) .lf)), ⟨(.tup [(.sl 2098 0 2 (some 2)), (.d (.val (.int .i64 0)))]), 2100, (.nd none (.nd none .lf (.nd none (.nd none (.nd none (.nd none .lf (.nd none (.nd none .lf (.nd none .lf (.nd none .lf (.nd (some (.bx none 2 4 [(.d (.val (.int .i64 0))), (.d (.val (.int .i64 (-1)))), (.d (.val (.int .i64 1))), (.d (.val (.int .i64 9)))] .lf false)) .lf .lf)))) .lf)) .lf) .lf) .lf)) (.nd none (.nd none .lf (.nd none (.nd (some (.bx none 62 12 [(.d (.val (.int .i64 0))), (.d (.val (.int .i64 0))), (.d (.val (.int .i64 0))), (.d (.val (.int .i64 10))), (.d (.val (.int .i64 (-2)))), (.d (.val (.int .i64 2))), (.d (.val (.int .i64 20))), (.d (.val (.int .i64 0))), (.d (.val (.int .i64 1))), (.d (.val (.int .i64 40))), (.d (.val (.int .i64 8))), (.d (.val (.int .i64 10)))] .lf false)) .lf .lf) .lf)) (.nd none (.nd none (.nd none .lf (.nd none .lf (.nd none (.nd none (.nd none (.nd none (.nd none (.nd (some (.bx none 3 2 [(.d (.val (.int .i64 0)))] (.nd (some (.d (.val (.int .i64 1)))) (.nd (some (.d (.val (.int .i64 2)))) .lf .lf) .lf) false)) .lf .lf) .lf) .lf) .lf) .lf) .lf))) .lf) .lf)))⟩⟩
theorem ca9_ok : Calls2 Try.prog ca9.f ca9.args ca9.n ca9.m ca9.q := chkW_ok (fuel := 600) tabOk ztOk qtOk mtOk (known_sums smsOk) noGor mixed (by decide +kernel)
end Go.Proofs.Ytjjoiihgpkhndaa.Eng
