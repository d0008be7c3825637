/-
  A part of the texts that the claim builds on: see the last one.
-/
import Derived.Test.YtkopinldolcmhaaDk18
set_option linter.unusedSimpArgs false
set_option linter.unusedVariables false
/-
  A call that is known: written by gen/wk.py.
-/
namespace Go.Proofs.Ytkopinldolcmhaa.Eng
open Go.RowKit
set_option maxRecDepth 100000
def pa14 : Ent := ⟨31, [(.agg [(.d (.val (.int .i64 20))), (.sl 11 0 2 (some 2))]), (.sl 901 0 1 none)], 3069, (.nd none (.nd none (.nd none .lf (.nd (some (.bx none 62 2 [(.sl 5 0 2 (some 2)), (.sl 10 0 2 (some 2))] .lf false)) .lf .lf)) (.nd (some (.bx none 65 4 [(.d (.val (.int .i64 30))), (.d (.val (.int .i64 10))), (.d (.val (.int .i64 5))), (.d (.val (.int .i64 (-20))))] .lf false)) .lf (.nd none (.nd none (.nd none (.nd none (.nd none .lf (.nd none .lf (.nd (some (.bx (some 1) 25 1 [(.sl 898 0 2 (some 2))] .lf false)) .lf .lf))) .lf) .lf) .lf) .lf))) (.nd none .lf (.nd none (.nd (some (.bx none 65 4 [(.d (.val (.int .i64 40))), (.d (.val (.int .i64 15))), (.d (.val (.int .i64 10))), (.d (.val (.int .i64 (-5))))] .lf false)) (.nd none (.nd none (.nd none (.nd none .lf (.nd none .lf (.nd (some (.bx none 3 2 [(.d (.val (.int .i64 0)))] (.nd (some (.d (.val (.int .i64 0)))) (.nd (some (.d (.val (.int .i64 0)))) .lf .lf) .lf) false)) .lf .lf))) .lf) .lf) .lf) .lf) .lf))), ⟨(.tup [(.d (.val (.int .i64 50))), (.d (.val (.int .i64 0)))]), 3167, (.nd none (.nd none (.nd none .lf (.nd (some (.bx none 62 2 [(.sl 5 0 2 (some 2)), (.sl 10 0 2 (some 2))] .lf false)) .lf .lf)) (.nd (some (.bx none 65 4 [(.d (.val (.int .i64 30))), (.d (.val (.int .i64 10))), (.d (.val (.int .i64 5))), (.d (.val (.int .i64 (-20))))] .lf false)) .lf (.nd none (.nd none (.nd none (.nd none (.nd none .lf (.nd none .lf (.nd (some (.bx (some 1) 25 1 [(.sl 898 0 2 (some 2))] .lf false)) .lf .lf))) .lf) .lf) .lf) .lf))) (.nd none .lf (.nd none (.nd (some (.bx none 65 4 [(.d (.val (.int .i64 40))), (.d (.val (.int .i64 15))), (.d (.val (.int .i64 10))), (.d (.val (.int .i64 (-5))))] .lf false)) (.nd none (.nd none (.nd none (.nd none .lf (.nd none .lf (.nd (some (.bx none 3 2 [(.d (.val (.int .i64 0)))] (.nd (some (.d (.val (.int .i64 0)))) (.nd (some (.d (.val (.int .i64 0)))) .lf .lf) .lf) false)) .lf .lf))) .lf) .lf) .lf) .lf) .lf)))⟩⟩
theorem pa14_ok : Calls2 Try.prog pa14.f pa14.args pa14.n pa14.m pa14.q := chkW_ok (fuel := 600) tabOk ztOk qtOk mtOk (known_sums smsOk) noGor mixed (by decide +kernel)
end Go.Proofs.Ytkopinldolcmhaa.Eng
