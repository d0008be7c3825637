/-
  A part of the texts that the claim builds on: see the last one.
-/
import Derived.Test.YtnhhlmikkmjenaaDk21
set_option linter.unusedSimpArgs false
set_option linter.unusedVariables false
/-
  A long call is known, by its stretches: written by gen/segw.py.
-/
namespace Go.Proofs.Ytnhhlmikkmjenaa.Eng
open Go.RowKit
set_option maxRecDepth 100000
theorem wa10_g : Goes Try.prog wa10k wa10c ⟨wa10in.n, startT wa10in.args 0 .lf, wa10in.m⟩ .ret wa10e := wa10_p0 (Goes.seqB (by decide +kernel) (wa10_p1 (Goes.loopB (by decide +kernel) (show GoesL Try.prog wa10k (rnd (past 1 (lft (past 3 wa10c)))) wa10t2 (.exit (bid (past 1 (lft (past 3 wa10c))))) wa10r4 from (show bid (past 1 (lft (past 3 wa10c))) = 2 by decide +kernel) ▸ (GoesL.round wa10_r0 (GoesL.round wa10_r1 (GoesL.round wa10_r2 (GoesL.round wa10_r3 (GoesL.out wa10_r4 (fun h => Exit.noConfusion h))))))))) wa10_e)
theorem wa10in_ok : Calls2 Try.prog wa10in.f wa10in.args wa10in.n wa10in.m wa10in.q := chkC_ok (ex := .ret) (t := wa10e) tabOk noGor (by decide +kernel) wa10_g
theorem wa10_ok : Calls2 Try.prog wa10.f wa10.args wa10.n wa10.m wa10.q := chk_ok (fuel := 600) tabOk ztOk qtOk mtOk (known_ent wa10in_ok known_nil) noGor mixed (by decide +kernel)
end Go.Proofs.Ytnhhlmikkmjenaa.Eng
