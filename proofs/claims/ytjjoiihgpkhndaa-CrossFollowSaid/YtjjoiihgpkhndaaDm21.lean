/-
  A part of the texts that the claim builds on: see the last one.
-/
import Derived.Test.YtjjoiihgpkhndaaDm20
set_option linter.unusedSimpArgs false
set_option linter.unusedVariables false
/-
  CrA returns true: the calls that it makes are known. Written by gen/wk.py.
-/
noncomputable section
namespace Go.Proofs.Ytjjoiihgpkhndaa.Eng
open Go.RowKit
set_option maxRecDepth 100000
def caK : Known := ⟨[ca1, ca2, ca3, ca4, ca5, ca6, ca7, ca8, ca9, ca10, ca11, ca12, ca13, ca14], [], SMS⟩
theorem caK_ok : KnownOk Try.prog caK := (known_ent ca1_ok (known_ent ca2_ok (known_ent ca3_ok (known_ent ca4_ok (known_ent ca5_ok (known_ent ca6_ok (known_ent ca7_ok (known_ent ca8_ok (known_ent ca9_ok (known_ent ca10_ok (known_ent ca11_ok (known_ent ca12_ok (known_ent ca13_ok (known_ent ca14_ok (known_sums smsOk)))))))))))))))
theorem works_call : ACall Try.prog 14 [] (.val (.bool true)) := closed_callW (n := 600) tabOk ztOk qtOk mtOk caK_ok noGor mixed (chkVW_ok (by decide +kernel))
end Go.Proofs.Ytjjoiihgpkhndaa.Eng
