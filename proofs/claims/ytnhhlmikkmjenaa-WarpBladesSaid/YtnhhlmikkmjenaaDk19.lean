/-
  A part of the texts that the claim builds on: see the last one.
-/
import Derived.Test.YtnhhlmikkmjenaaDk18
set_option linter.unusedSimpArgs false
set_option linter.unusedVariables false
/-
  A stretch of a long call: written by gen/segw.py.
-/
namespace Go.Proofs.Ytnhhlmikkmjenaa.Eng
open Go.RowKit
set_option maxRecDepth 100000
theorem wa10_r3 : Goes Try.prog wa10k (rnd (past 1 (lft (past 3 wa10c)))) wa10r2 .normal wa10r3 := chkR_ok (fuel := 600) tabOk ztOk qtOk mtOk known_nil noGor mixed (by decide +kernel)
end Go.Proofs.Ytnhhlmikkmjenaa.Eng
