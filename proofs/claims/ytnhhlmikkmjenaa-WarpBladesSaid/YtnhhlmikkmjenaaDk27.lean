/-
  A part of the texts that the claim builds on: see the last one.
-/
import Derived.Test.YtnhhlmikkmjenaaDk26
set_option linter.unusedSimpArgs false
set_option linter.unusedVariables false
/-
  WkA returns true: the calls that it makes are known. Written by gen/wk.py.
-/
namespace Go.Proofs.Ytnhhlmikkmjenaa.Eng
open Go.RowKit
set_option maxRecDepth 100000
def waK : Known := ⟨[wa1, wa2, wa3, wa4, wa5, wa6, wa7, wa8, wa9, wa10, wa11, wa12, wa13, wa14], []⟩
theorem waK_ok : KnownOk Try.prog waK := (known_ent wa1_ok (known_ent wa2_ok (known_ent wa3_ok (known_ent wa4_ok (known_ent wa5_ok (known_ent wa6_ok (known_ent wa7_ok (known_ent wa8_ok (known_ent wa9_ok (known_ent wa10_ok (known_ent wa11_ok (known_ent wa12_ok (known_ent wa13_ok (known_ent wa14_ok known_nil))))))))))))))
theorem works_call : ACall Try.prog 15 [] (.val (.bool true)) := closed_call (n := 600) tabOk ztOk qtOk mtOk waK_ok noGor mixed (chkV_ok (by decide +kernel))
end Go.Proofs.Ytnhhlmikkmjenaa.Eng
