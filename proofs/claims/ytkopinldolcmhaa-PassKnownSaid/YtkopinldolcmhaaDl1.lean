/-
  A part of the texts that the claim builds on: see the last one.
-/
import Derived.Test.YtkopinldolcmhaaDk20
set_option linter.unusedSimpArgs false
set_option linter.unusedVariables false
/-
  A call that is known: written by gen/wk.py.
-/
namespace Go.Proofs.Ytkopinldolcmhaa.Eng
open Go.RowKit
set_option maxRecDepth 100000
def pb1 : Ent := ⟨16, [(.agg [(.d (.val (.int .i64 20))), (.sl 11 0 2 (some 2))]), (.sl 15 0 2 (some 2))], 16, (.nd none (.nd none (.nd none (.nd none (.nd (some (.bx none 3 2 [(.d (.val (.int .i64 2))), (.d (.val (.int .i64 2)))] .lf false)) .lf .lf) .lf) (.nd (some (.bx none 62 2 [(.sl 5 0 2 (some 2)), (.sl 10 0 2 (some 2))] .lf false)) .lf .lf)) (.nd (some (.bx none 65 4 [(.d (.val (.int .i64 30))), (.d (.val (.int .i64 10))), (.d (.val (.int .i64 5))), (.d (.val (.int .i64 (-20))))] .lf false)) .lf .lf)) (.nd none .lf (.nd none (.nd (some (.bx none 65 4 [(.d (.val (.int .i64 40))), (.d (.val (.int .i64 15))), (.d (.val (.int .i64 10))), (.d (.val (.int .i64 (-5))))] .lf false)) .lf .lf) .lf))), ⟨(.tup [(.d (.val (.int .i64 20))), (.d (.val (.int .i64 0)))]), 65, (.nd none (.nd none (.nd none (.nd none (.nd (some (.bx none 3 2 [(.d (.val (.int .i64 2))), (.d (.val (.int .i64 2)))] .lf false)) .lf .lf) .lf) (.nd (some (.bx none 62 2 [(.sl 5 0 2 (some 2)), (.sl 10 0 2 (some 2))] .lf false)) .lf .lf)) (.nd (some (.bx none 65 4 [(.d (.val (.int .i64 30))), (.d (.val (.int .i64 10))), (.d (.val (.int .i64 5))), (.d (.val (.int .i64 (-20))))] .lf false)) .lf .lf)) (.nd none .lf (.nd none (.nd (some (.bx none 65 4 [(.d (.val (.int .i64 40))), (.d (.val (.int .i64 15))), (.d (.val (.int .i64 10))), (.d (.val (.int .i64 (-5))))] .lf false)) .lf .lf) .lf)))⟩⟩
theorem pb1_ok : Calls2 Try.prog pb1.f pb1.args pb1.n pb1.m pb1.q := chkW_ok (fuel := 600) tabOk ztOk qtOk mtOk (known_sums smsOk) noGor mixed (by decide +kernel)
end Go.Proofs.Ytkopinldolcmhaa.Eng
