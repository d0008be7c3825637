/-
  A part of the texts that the claim builds on: see the last one.
-/
import Derived.Test.YtlbkofidcpkphaaDk5
set_option linter.unusedSimpArgs false
set_option linter.unusedVariables false
/-
  A call that is known: written by gen/wk.py.
-/
namespace Go.Proofs.Ytlbkofidcpkphaa.Eng
open Go.RowKit
set_option maxRecDepth 100000
def ra10 : Ent := ⟨38, [(.agg [(.d (.val (.int .i64 3000))), (.d (.val (.int .i64 1500))), (.d (.val (.int .i64 10))), (.d (.val (.int .i64 540000))), (.d (.val (.int .i64 720000)))]), (.sl 4 0 5 (some 5))], 4083, (.nd none .lf (.nd none (.nd (some (.bx none 2 5 [(.d (.val (.int .i64 200))), (.d (.val (.int .i64 250))), (.d (.val (.int .i64 260))), (.d (.val (.int .i64 300))), (.d (.val (.int .i64 390)))] .lf false)) .lf .lf) .lf)), ⟨(.tup [(.sl 14333 0 5 (some 5)), (.d (.val (.int .i64 0)))]), 14335, (.nd none (.nd none .lf (.nd none .lf (.nd none .lf (.nd none .lf (.nd none .lf (.nd none .lf (.nd none .lf (.nd none .lf (.nd none .lf (.nd none .lf (.nd none (.nd none .lf (.nd (some (.bx none 3 5 [(.d (.val (.int .i64 0)))] (.nd (some (.d (.val (.int .i64 2)))) (.nd (some (.d (.val (.int .i64 1)))) (.nd (some (.d (.val (.int .i64 2)))) .lf .lf) .lf) (.nd (some (.d (.val (.int .i64 1)))) (.nd (some (.d (.val (.int .i64 2)))) .lf .lf) .lf)) false)) .lf .lf)) .lf))))))))))) (.nd none (.nd (some (.bx none 2 5 [(.d (.val (.int .i64 200))), (.d (.val (.int .i64 250))), (.d (.val (.int .i64 260))), (.d (.val (.int .i64 300))), (.d (.val (.int .i64 390)))] .lf false)) .lf .lf) .lf))⟩⟩
theorem ra10_ok : Calls2 Try.prog ra10.f ra10.args ra10.n ra10.m ra10.q := chk_ok (fuel := 600) tabOk ztOk qtOk mtOk (known_sums smsOk) noGor mixed (by decide +kernel)
end Go.Proofs.Ytlbkofidcpkphaa.Eng
