/-
  A part of the texts that the claim builds on: see the last one.
-/
import Derived.Test.YtkopinldolcmhaaDk13
set_option linter.unusedSimpArgs false
set_option linter.unusedVariables false
/-
  A call that is known: written by gen/wk.py.
-/
namespace Go.Proofs.Ytkopinldolcmhaa.Eng
open Go.RowKit
set_option maxRecDepth 100000
def pa9 : Ent := ⟨26, [(.agg [(.d (.val (.int .i64 20))), (.sl 11 0 2 (some 2))]), (.d (.val (.int .i64 65)))], 1124, (.nd none (.nd none (.nd none .lf (.nd (some (.bx none 62 2 [(.sl 5 0 2 (some 2)), (.sl 10 0 2 (some 2))] .lf false)) .lf .lf)) (.nd (some (.bx none 65 4 [(.d (.val (.int .i64 30))), (.d (.val (.int .i64 10))), (.d (.val (.int .i64 5))), (.d (.val (.int .i64 (-20))))] .lf false)) .lf .lf)) (.nd none .lf (.nd none (.nd (some (.bx none 65 4 [(.d (.val (.int .i64 40))), (.d (.val (.int .i64 15))), (.d (.val (.int .i64 10))), (.d (.val (.int .i64 (-5))))] .lf false)) .lf .lf) .lf))), ⟨(.tup [(.d (.val (.int .i64 4))), (.d (.val (.int .i64 0)))]), 1396, (.nd none (.nd none (.nd none .lf (.nd (some (.bx none 62 2 [(.sl 5 0 2 (some 2)), (.sl 10 0 2 (some 2))] .lf false)) .lf .lf)) (.nd (some (.bx none 65 4 [(.d (.val (.int .i64 30))), (.d (.val (.int .i64 10))), (.d (.val (.int .i64 5))), (.d (.val (.int .i64 (-20))))] .lf false)) .lf .lf)) (.nd none .lf (.nd none (.nd (some (.bx none 65 4 [(.d (.val (.int .i64 40))), (.d (.val (.int .i64 15))), (.d (.val (.int .i64 10))), (.d (.val (.int .i64 (-5))))] .lf false)) .lf .lf) .lf)))⟩⟩
theorem pa9_ok : Calls2 Try.prog pa9.f pa9.args pa9.n pa9.m pa9.q := chkW_ok (fuel := 600) tabOk ztOk qtOk mtOk (known_sums smsOk) noGor mixed (by decide +kernel)
end Go.Proofs.Ytkopinldolcmhaa.Eng
