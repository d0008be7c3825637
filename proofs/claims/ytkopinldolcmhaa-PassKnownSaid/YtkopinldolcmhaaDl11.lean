/-
  A part of the texts that the claim builds on: see the last one.
-/
import Derived.Test.YtkopinldolcmhaaDl10
set_option linter.unusedSimpArgs false
set_option linter.unusedVariables false
/-
  A call that is known: written by gen/wk.py.
-/
namespace Go.Proofs.Ytkopinldolcmhaa.Eng
open Go.RowKit
set_option maxRecDepth 100000
def pb11 : Ent := ⟨36, [(.agg [(.d (.val (.int .i64 20))), (.sl 11 0 2 (some 2))]), (.d (.val (.int .i64 50))), (.agg [(.d (.val (.int .i64 1))), (.d (.val (.int .i64 0)))])], 2640, (.nd none (.nd none (.nd none .lf (.nd (some (.bx none 62 2 [(.sl 5 0 2 (some 2)), (.sl 10 0 2 (some 2))] .lf false)) .lf .lf)) (.nd (some (.bx none 65 4 [(.d (.val (.int .i64 30))), (.d (.val (.int .i64 10))), (.d (.val (.int .i64 5))), (.d (.val (.int .i64 (-20))))] .lf false)) .lf .lf)) (.nd none .lf (.nd none (.nd (some (.bx none 65 4 [(.d (.val (.int .i64 40))), (.d (.val (.int .i64 15))), (.d (.val (.int .i64 10))), (.d (.val (.int .i64 (-5))))] .lf false)) .lf .lf) .lf))), ⟨(.tup [(.agg [(.d (.val (.int .i64 10))), (.d (.val (.int .i64 10)))]), (.d (.val (.int .i64 0)))]), 3201, (.nd none (.nd none (.nd none .lf (.nd (some (.bx none 62 2 [(.sl 5 0 2 (some 2)), (.sl 10 0 2 (some 2))] .lf false)) .lf .lf)) (.nd (some (.bx none 65 4 [(.d (.val (.int .i64 30))), (.d (.val (.int .i64 10))), (.d (.val (.int .i64 5))), (.d (.val (.int .i64 (-20))))] .lf false)) .lf .lf)) (.nd none .lf (.nd none (.nd (some (.bx none 65 4 [(.d (.val (.int .i64 40))), (.d (.val (.int .i64 15))), (.d (.val (.int .i64 10))), (.d (.val (.int .i64 (-5))))] .lf false)) .lf .lf) .lf)))⟩⟩
theorem pb11_ok : Calls2 Try.prog pb11.f pb11.args pb11.n pb11.m pb11.q := chkW_ok (fuel := 600) tabOk ztOk qtOk mtOk (known_sums smsOk) noGor mixed (by decide +kernel)
end Go.Proofs.Ytkopinldolcmhaa.Eng
