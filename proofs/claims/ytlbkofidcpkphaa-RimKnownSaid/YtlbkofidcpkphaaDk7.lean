/-
  A part of the texts that the claim builds on: see the last one.
-/
import Derived.Test.YtlbkofidcpkphaaDk6
set_option linter.unusedSimpArgs false
set_option linter.unusedVariables false
/-
  RmA returns true: the calls that it makes are known. Written by gen/wk.py.
-/
noncomputable section
namespace Go.Proofs.Ytlbkofidcpkphaa.Eng
open Go.RowKit
set_option maxRecDepth 100000
def raK : Known := ⟨[ra1, ra2, ra3, ra4, ra5, ra6, ra7, ra8, ra9, ra10], [], SMS⟩
theorem raK_ok : KnownOk Try.prog raK := (known_ent ra1_ok (known_ent ra2_ok (known_ent ra3_ok (known_ent ra4_ok (known_ent ra5_ok (known_ent ra6_ok (known_ent ra7_ok (known_ent ra8_ok (known_ent ra9_ok (known_ent ra10_ok (known_sums smsOk)))))))))))
theorem works_call : ACall Try.prog 17 [] (.val (.bool true)) := closed_call (n := 600) tabOk ztOk qtOk mtOk raK_ok noGor mixed (chkV_ok (by decide +kernel))
end Go.Proofs.Ytlbkofidcpkphaa.Eng
