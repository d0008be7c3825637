/-
  A part of the texts that the claim builds on: see the last one.
-/
import Derived.Test.YtnhhlmikkmjenaaDk14
set_option linter.unusedSimpArgs false
set_option linter.unusedVariables false
/-
  A stretch of a long call: written by gen/segw.py.
-/
namespace Go.Proofs.Ytnhhlmikkmjenaa.Eng
open Go.RowKit
set_option maxRecDepth 100000
theorem wa10_p0 {e : Exit} {u : CS} (h : Goes Try.prog wa10k (past 3 wa10c) wa10t1 e u) : Goes Try.prog wa10k wa10c ⟨wa10in.n, startT wa10in.args 0 .lf, wa10in.m⟩ e u := chkF_ok (fuel := 600) (k := 3) tabOk ztOk qtOk mtOk known_nil noGor mixed (by decide +kernel) h
theorem wa10_p1 {e : Exit} {u : CS} (h : Goes Try.prog wa10k (past 1 (lft (past 3 wa10c))) wa10t2 e u) : Goes Try.prog wa10k (lft (past 3 wa10c)) wa10t1 e u := chkF_ok (fuel := 600) (k := 1) tabOk ztOk qtOk mtOk known_nil noGor mixed (by decide +kernel) h
end Go.Proofs.Ytnhhlmikkmjenaa.Eng
