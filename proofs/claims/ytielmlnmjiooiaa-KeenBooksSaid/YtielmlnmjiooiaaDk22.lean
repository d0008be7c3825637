/-
  A part of the texts that the claim builds on: see the last one.
-/
import Derived.Test.YtielmlnmjiooiaaDk21
set_option linter.unusedSimpArgs false
set_option linter.unusedVariables false
/-
  KnA returns true: the calls that it makes are known. Written by gen/wk.py.
-/
namespace Go.Proofs.Ytielmlnmjiooiaa.Eng
open Go.RowKit
set_option maxRecDepth 100000
def kaK : Known := ⟨[ka1, ka2, ka3, ka4, ka5, ka6, ka7, ka8, ka9, ka10, ka11, ka12, ka13, ka14, ka15, ka16, ka17], []⟩
theorem kaK_ok : KnownOk Try.prog kaK := (known_ent ka1_ok (known_ent ka2_ok (known_ent ka3_ok (known_ent ka4_ok (known_ent ka5_ok (known_ent ka6_ok (known_ent ka7_ok (known_ent ka8_ok (known_ent ka9_ok (known_ent ka10_ok (known_ent ka11_ok (known_ent ka12_ok (known_ent ka13_ok (known_ent ka14_ok (known_ent ka15_ok (known_ent ka16_ok (known_ent ka17_ok known_nil)))))))))))))))))
theorem works_call : ACall Try.prog 17 [] (.val (.bool true)) := closed_call (n := 600) tabOk ztOk qtOk mtOk kaK_ok noGor mixed (chkV_ok (by decide +kernel))
end Go.Proofs.Ytielmlnmjiooiaa.Eng
