/-
  A part of the texts that the claim builds on: see the last one.
-/
import Derived.Test.YtjjoiihgpkhndaaDm9
set_option linter.unusedSimpArgs false
set_option linter.unusedVariables false
/-
  A call that is known: written by gen/wk.py.
-/
namespace Go.Proofs.Ytjjoiihgpkhndaa.Eng
open Go.RowKit
set_option maxRecDepth 100000
def ca4 : Ent := ⟨34, [(.sl 8 0 4 (some 4))], 1170, (.nd none .lf (.nd none (.nd none (.nd (some (.bx none 62 12 [(.d (.val (.int .i64 0))), (.d (.val (.int .i64 0))), (.d (.val (.int .i64 0))), (.d (.val (.int .i64 10))), (.d (.val (.int .i64 (-2)))), (.d (.val (.int .i64 2))), (.d (.val (.int .i64 20))), (.d (.val (.int .i64 0))), (.d (.val (.int .i64 1))), (.d (.val (.int .i64 40))), (.d (.val (.int .i64 8))), (.d (.val (.int .i64 10)))] (.nd none (.nd none (.nd (some (.d (.val (.int .i64 10)))) .lf .lf) (.nd (some (.d (.val (.int .i64 2)))) .lf .lf)) (.nd none (.nd (some (.d (.val (.int .i64 1)))) .lf .lf) .lf)) false)) .lf .lf) .lf) .lf)), ⟨(.tup [.nilS, (.d (.val (.int .i64 22)))]), 1334, (.nd none .lf (.nd none (.nd none (.nd (some (.bx none 62 12 [(.d (.val (.int .i64 0))), (.d (.val (.int .i64 0))), (.d (.val (.int .i64 0))), (.d (.val (.int .i64 10))), (.d (.val (.int .i64 (-2)))), (.d (.val (.int .i64 2))), (.d (.val (.int .i64 20))), (.d (.val (.int .i64 0))), (.d (.val (.int .i64 1))), (.d (.val (.int .i64 40))), (.d (.val (.int .i64 8))), (.d (.val (.int .i64 10)))] (.nd none (.nd none (.nd (some (.d (.val (.int .i64 10)))) .lf .lf) (.nd (some (.d (.val (.int .i64 2)))) .lf .lf)) (.nd none (.nd (some (.d (.val (.int .i64 1)))) .lf .lf) .lf)) false)) .lf .lf) .lf) .lf))⟩⟩
theorem ca4_ok : Calls2 Try.prog ca4.f ca4.args ca4.n ca4.m ca4.q := chkW_ok (fuel := 600) tabOk ztOk qtOk mtOk (known_sums smsOk) noGor mixed (by decide +kernel)
end Go.Proofs.Ytjjoiihgpkhndaa.Eng
