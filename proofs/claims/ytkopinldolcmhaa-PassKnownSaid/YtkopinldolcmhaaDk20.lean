/-
  A part of the texts that the claim builds on: see the last one.
-/
import Derived.Test.YtkopinldolcmhaaDk19
set_option linter.unusedSimpArgs false
set_option linter.unusedVariables false
/-
  PsA returns true: the calls that it makes are known. Written by gen/wk.py.
-/
noncomputable section
namespace Go.Proofs.Ytkopinldolcmhaa.Eng
open Go.RowKit
set_option maxRecDepth 100000
def paK : Known := ⟨[pa1, pa2, pa3, pa4, pa5, pa6, pa7, pa8, pa9, pa10, pa11, pa12, pa13, pa14], [], SMS⟩
theorem paK_ok : KnownOk Try.prog paK := (known_ent pa1_ok (known_ent pa2_ok (known_ent pa3_ok (known_ent pa4_ok (known_ent pa5_ok (known_ent pa6_ok (known_ent pa7_ok (known_ent pa8_ok (known_ent pa9_ok (known_ent pa10_ok (known_ent pa11_ok (known_ent pa12_ok (known_ent pa13_ok (known_ent pa14_ok (known_sums smsOk)))))))))))))))
theorem works_call : ACall Try.prog 15 [] (.val (.bool true)) := closed_callW (n := 600) tabOk ztOk qtOk mtOk paK_ok noGor mixed (chkVW_ok (by decide +kernel))
end Go.Proofs.Ytkopinldolcmhaa.Eng
