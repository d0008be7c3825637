/-
  RimKnown returns true, at every start: the examples of the chapter of layer 3 are as the chapter says. No condition.
-/
import Derived.Test.YtlbkofidcpkphaaDk7
import Derived.Test.YtlbkofidcpkphaaRows
import Derived.ProofKit
import Derived.OpenShut
import Derived.Below
import Derived.ChangeSame
set_option linter.unusedSimpArgs false
set_option linter.unusedVariables false
/-
  A call that is known: written by gen/wk.py.
-/
namespace Go.Proofs.Ytlbkofidcpkphaa.Eng
open Go.RowKit
set_option maxRecDepth 100000
def rb1 : Ent := ⟨18, [(.agg [(.d (.val (.int .i64 3000))), (.d (.val (.int .i64 1500))), (.d (.val (.int .i64 10))), (.d (.val (.int .i64 540000))), (.d (.val (.int .i64 720000)))]), (.sl 4 0 5 (some 5)), (.d (.val (.int .i64 0)))], 18, (.nd none .lf (.nd none (.nd (some (.bx none 2 5 [(.d (.val (.int .i64 200))), (.d (.val (.int .i64 250))), (.d (.val (.int .i64 260))), (.d (.val (.int .i64 300))), (.d (.val (.int .i64 390)))] .lf false)) .lf .lf) .lf)), ⟨(.tup [(.agg [(.d (.val (.int .i64 2710))), (.d (.val (.int .i64 3000)))]), (.d (.val (.int .i64 0)))]), 57, (.nd none .lf (.nd none (.nd (some (.bx none 2 5 [(.d (.val (.int .i64 200))), (.d (.val (.int .i64 250))), (.d (.val (.int .i64 260))), (.d (.val (.int .i64 300))), (.d (.val (.int .i64 390)))] .lf false)) .lf .lf) .lf))⟩⟩
theorem rb1_ok : Calls2 Try.prog rb1.f rb1.args rb1.n rb1.m rb1.q := chk_ok (fuel := 600) tabOk ztOk qtOk mtOk (known_sums smsOk) noGor mixed (by decide +kernel)
end Go.Proofs.Ytlbkofidcpkphaa.Eng

/-
  A call that is known: written by gen/wk.py.
-/
namespace Go.Proofs.Ytlbkofidcpkphaa.Eng
open Go.RowKit
set_option maxRecDepth 100000
def rb2 : Ent := ⟨18, [(.agg [(.d (.val (.int .i64 3000))), (.d (.val (.int .i64 1500))), (.d (.val (.int .i64 10))), (.d (.val (.int .i64 540000))), (.d (.val (.int .i64 720000)))]), (.sl 4 0 5 (some 5)), (.d (.val (.int .i64 1)))], 59, (.nd none .lf (.nd none (.nd (some (.bx none 2 5 [(.d (.val (.int .i64 200))), (.d (.val (.int .i64 250))), (.d (.val (.int .i64 260))), (.d (.val (.int .i64 300))), (.d (.val (.int .i64 390)))] .lf false)) .lf .lf) .lf)), ⟨(.tup [(.agg [(.d (.val (.int .i64 2170))), (.d (.val (.int .i64 2870)))]), (.d (.val (.int .i64 0)))]), 98, (.nd none .lf (.nd none (.nd (some (.bx none 2 5 [(.d (.val (.int .i64 200))), (.d (.val (.int .i64 250))), (.d (.val (.int .i64 260))), (.d (.val (.int .i64 300))), (.d (.val (.int .i64 390)))] .lf false)) .lf .lf) .lf))⟩⟩
theorem rb2_ok : Calls2 Try.prog rb2.f rb2.args rb2.n rb2.m rb2.q := chk_ok (fuel := 600) tabOk ztOk qtOk mtOk (known_sums smsOk) noGor mixed (by decide +kernel)
end Go.Proofs.Ytlbkofidcpkphaa.Eng

/-
  A call that is known: written by gen/wk.py.
-/
namespace Go.Proofs.Ytlbkofidcpkphaa.Eng
open Go.RowKit
set_option maxRecDepth 100000
def rb3 : Ent := ⟨18, [(.agg [(.d (.val (.int .i64 3000))), (.d (.val (.int .i64 1500))), (.d (.val (.int .i64 10))), (.d (.val (.int .i64 540000))), (.d (.val (.int .i64 720000)))]), (.sl 4 0 5 (some 5)), (.d (.val (.int .i64 2)))], 100, (.nd none .lf (.nd none (.nd (some (.bx none 2 5 [(.d (.val (.int .i64 200))), (.d (.val (.int .i64 250))), (.d (.val (.int .i64 260))), (.d (.val (.int .i64 300))), (.d (.val (.int .i64 390)))] .lf false)) .lf .lf) .lf)), ⟨(.tup [(.agg [(.d (.val (.int .i64 2087))), (.d (.val (.int .i64 2759)))]), (.d (.val (.int .i64 0)))]), 139, (.nd none .lf (.nd none (.nd (some (.bx none 2 5 [(.d (.val (.int .i64 200))), (.d (.val (.int .i64 250))), (.d (.val (.int .i64 260))), (.d (.val (.int .i64 300))), (.d (.val (.int .i64 390)))] .lf false)) .lf .lf) .lf))⟩⟩
theorem rb3_ok : Calls2 Try.prog rb3.f rb3.args rb3.n rb3.m rb3.q := chk_ok (fuel := 600) tabOk ztOk qtOk mtOk (known_sums smsOk) noGor mixed (by decide +kernel)
end Go.Proofs.Ytlbkofidcpkphaa.Eng

/-
  A call that is known: written by gen/wk.py.
-/
namespace Go.Proofs.Ytlbkofidcpkphaa.Eng
open Go.RowKit
set_option maxRecDepth 100000
def rb4 : Ent := ⟨18, [(.agg [(.d (.val (.int .i64 3000))), (.d (.val (.int .i64 1500))), (.d (.val (.int .i64 10))), (.d (.val (.int .i64 540000))), (.d (.val (.int .i64 720000)))]), (.sl 4 0 5 (some 5)), (.d (.val (.int .i64 3)))], 141, (.nd none .lf (.nd none (.nd (some (.bx none 2 5 [(.d (.val (.int .i64 200))), (.d (.val (.int .i64 250))), (.d (.val (.int .i64 260))), (.d (.val (.int .i64 300))), (.d (.val (.int .i64 390)))] .lf false)) .lf .lf) .lf)), ⟨(.tup [(.agg [(.d (.val (.int .i64 1810))), (.d (.val (.int .i64 2390)))]), (.d (.val (.int .i64 0)))]), 180, (.nd none .lf (.nd none (.nd (some (.bx none 2 5 [(.d (.val (.int .i64 200))), (.d (.val (.int .i64 250))), (.d (.val (.int .i64 260))), (.d (.val (.int .i64 300))), (.d (.val (.int .i64 390)))] .lf false)) .lf .lf) .lf))⟩⟩
theorem rb4_ok : Calls2 Try.prog rb4.f rb4.args rb4.n rb4.m rb4.q := chk_ok (fuel := 600) tabOk ztOk qtOk mtOk (known_sums smsOk) noGor mixed (by decide +kernel)
end Go.Proofs.Ytlbkofidcpkphaa.Eng

/-
  A call that is known: written by gen/wk.py.
-/
namespace Go.Proofs.Ytlbkofidcpkphaa.Eng
open Go.RowKit
set_option maxRecDepth 100000
def rb5 : Ent := ⟨18, [(.agg [(.d (.val (.int .i64 3000))), (.d (.val (.int .i64 1500))), (.d (.val (.int .i64 10))), (.d (.val (.int .i64 540000))), (.d (.val (.int .i64 720000)))]), (.sl 4 0 5 (some 5)), (.d (.val (.int .i64 4)))], 182, (.nd none .lf (.nd none (.nd (some (.bx none 2 5 [(.d (.val (.int .i64 200))), (.d (.val (.int .i64 250))), (.d (.val (.int .i64 260))), (.d (.val (.int .i64 300))), (.d (.val (.int .i64 390)))] .lf false)) .lf .lf) .lf)), ⟨(.tup [(.agg [(.d (.val (.int .i64 1500))), (.d (.val (.int .i64 1836)))]), (.d (.val (.int .i64 0)))]), 221, (.nd none .lf (.nd none (.nd (some (.bx none 2 5 [(.d (.val (.int .i64 200))), (.d (.val (.int .i64 250))), (.d (.val (.int .i64 260))), (.d (.val (.int .i64 300))), (.d (.val (.int .i64 390)))] .lf false)) .lf .lf) .lf))⟩⟩
theorem rb5_ok : Calls2 Try.prog rb5.f rb5.args rb5.n rb5.m rb5.q := chk_ok (fuel := 600) tabOk ztOk qtOk mtOk (known_sums smsOk) noGor mixed (by decide +kernel)
end Go.Proofs.Ytlbkofidcpkphaa.Eng

/-
  A call that is known: written by gen/wk.py.
-/
namespace Go.Proofs.Ytlbkofidcpkphaa.Eng
open Go.RowKit
set_option maxRecDepth 100000
def rb6 : Ent := ⟨26, [(.agg [(.d (.val (.int .i64 3000))), (.d (.val (.int .i64 1500))), (.d (.val (.int .i64 10))), (.d (.val (.int .i64 540000))), (.d (.val (.int .i64 720000)))]), (.sl 4 0 5 (some 5)), (.sl 231 0 4 (some 4))], 232, (.nd none (.nd none (.nd none (.nd none .lf (.nd none (.nd none .lf (.nd none .lf (.nd (some (.bx none 59 8 [(.d (.val (.int .i64 3000))), (.d (.val (.int .i64 0))), (.d (.val (.int .i64 2800))), (.d (.val (.int .i64 1))), (.d (.val (.int .i64 2169))), (.d (.val (.int .i64 3))), (.d (.val (.int .i64 1836))), (.d (.val (.int .i64 4)))] .lf false)) .lf .lf))) .lf)) .lf) .lf) (.nd none (.nd (some (.bx none 2 5 [(.d (.val (.int .i64 200))), (.d (.val (.int .i64 250))), (.d (.val (.int .i64 260))), (.d (.val (.int .i64 300))), (.d (.val (.int .i64 390)))] .lf false)) .lf .lf) .lf)), ⟨(.d (.val (.int .i64 0))), 336, (.nd none (.nd none (.nd none (.nd none .lf (.nd none (.nd none .lf (.nd none .lf (.nd (some (.bx none 59 8 [(.d (.val (.int .i64 3000))), (.d (.val (.int .i64 0))), (.d (.val (.int .i64 2800))), (.d (.val (.int .i64 1))), (.d (.val (.int .i64 2169))), (.d (.val (.int .i64 3))), (.d (.val (.int .i64 1836))), (.d (.val (.int .i64 4)))] .lf false)) .lf .lf))) .lf)) .lf) .lf) (.nd none (.nd (some (.bx none 2 5 [(.d (.val (.int .i64 200))), (.d (.val (.int .i64 250))), (.d (.val (.int .i64 260))), (.d (.val (.int .i64 300))), (.d (.val (.int .i64 390)))] .lf false)) .lf .lf) .lf))⟩⟩
theorem rb6_ok : Calls2 Try.prog rb6.f rb6.args rb6.n rb6.m rb6.q := chk_ok (fuel := 600) tabOk ztOk qtOk mtOk (known_sums smsOk) noGor mixed (by decide +kernel)
end Go.Proofs.Ytlbkofidcpkphaa.Eng

/-
  A call that is known: written by gen/wk.py.
-/
namespace Go.Proofs.Ytlbkofidcpkphaa.Eng
open Go.RowKit
set_option maxRecDepth 100000
def rb7 : Ent := ⟨36, [(.agg [(.d (.val (.int .i64 3000))), (.d (.val (.int .i64 1500))), (.d (.val (.int .i64 10))), (.d (.val (.int .i64 540000))), (.d (.val (.int .i64 720000)))]), (.sl 4 0 5 (some 5)), (.d (.val (.int .i64 1)))], 336, (.nd none .lf (.nd none (.nd (some (.bx none 2 5 [(.d (.val (.int .i64 200))), (.d (.val (.int .i64 250))), (.d (.val (.int .i64 260))), (.d (.val (.int .i64 300))), (.d (.val (.int .i64 390)))] .lf false)) .lf .lf) .lf)), ⟨(.tup [(.d (.val (.int .i64 2710))), (.d (.val (.int .i64 0)))]), 1083, (.nd none .lf (.nd none (.nd (some (.bx none 2 5 [(.d (.val (.int .i64 200))), (.d (.val (.int .i64 250))), (.d (.val (.int .i64 260))), (.d (.val (.int .i64 300))), (.d (.val (.int .i64 390)))] .lf false)) .lf .lf) .lf))⟩⟩
theorem rb7_ok : Calls2 Try.prog rb7.f rb7.args rb7.n rb7.m rb7.q := chk_ok (fuel := 600) tabOk ztOk qtOk mtOk (known_sums smsOk) noGor mixed (by decide +kernel)
end Go.Proofs.Ytlbkofidcpkphaa.Eng

/-
  A call that is known: written by gen/wk.py.
-/
namespace Go.Proofs.Ytlbkofidcpkphaa.Eng
open Go.RowKit
set_option maxRecDepth 100000
def rb8 : Ent := ⟨36, [(.agg [(.d (.val (.int .i64 3000))), (.d (.val (.int .i64 1500))), (.d (.val (.int .i64 10))), (.d (.val (.int .i64 540000))), (.d (.val (.int .i64 720000)))]), (.sl 4 0 5 (some 5)), (.d (.val (.int .i64 4)))], 1083, (.nd none .lf (.nd none (.nd (some (.bx none 2 5 [(.d (.val (.int .i64 200))), (.d (.val (.int .i64 250))), (.d (.val (.int .i64 260))), (.d (.val (.int .i64 300))), (.d (.val (.int .i64 390)))] .lf false)) .lf .lf) .lf)), ⟨(.tup [(.d (.val (.int .i64 1500))), (.d (.val (.int .i64 0)))]), 2262, (.nd none .lf (.nd none (.nd (some (.bx none 2 5 [(.d (.val (.int .i64 200))), (.d (.val (.int .i64 250))), (.d (.val (.int .i64 260))), (.d (.val (.int .i64 300))), (.d (.val (.int .i64 390)))] .lf false)) .lf .lf) .lf))⟩⟩
theorem rb8_ok : Calls2 Try.prog rb8.f rb8.args rb8.n rb8.m rb8.q := chk_ok (fuel := 600) tabOk ztOk qtOk mtOk (known_sums smsOk) noGor mixed (by decide +kernel)
end Go.Proofs.Ytlbkofidcpkphaa.Eng

/-
  RmK returns true: the calls that it makes are known. Written by gen/wk.py.
-/
noncomputable section
namespace Go.Proofs.Ytlbkofidcpkphaa.Eng
open Go.RowKit
set_option maxRecDepth 100000
def rbK : Known := ⟨[rb1, rb2, rb3, rb4, rb5, rb6, rb7, rb8], [(17, .bool true)], SMS⟩
theorem rbK_ok : KnownOk Try.prog rbK := (known_ent rb1_ok (known_ent rb2_ok (known_ent rb3_ok (known_ent rb4_ok (known_ent rb5_ok (known_ent rb6_ok (known_ent rb7_ok (known_ent rb8_ok (known_closed works_call (known_sums smsOk))))))))))
theorem rimKnown_call : ACall Try.prog 15 [] (.val (.bool true)) := closed_call (n := 600) tabOk ztOk qtOk mtOk rbK_ok noGor mixed (chkV_ok (by decide +kernel))
end Go.Proofs.Ytlbkofidcpkphaa.Eng

/-
  The last step of a law's row, from 'what was there is as it was' alone.
-/
namespace Go.Proofs.Ytlbkofidcpkphaa
open Go.ChangeShapes Go.WideShapes Go.ChangeAt Go.RowKit

/-- A law that takes no package variable: it answers, what was there is as it was, and the arguments read as they did. -/
theorem post_later {H : Type} {enc : TypeId × Value → H} {P : Program} {f : Func} {s : ChangeSpec} {apart fresh handsOn again : Bool} {W W' : World} {args : Array Value} {v : Value} {ds gs : List (DataW H)} {before pa pv : List MemPlace}
    (hW : DataW.Whole enc P f.params.toList s.vars apart W args.toList ds gs before) (hsplit : before = pa ++ pv)
    (hr : ∀ (b : Nat) (sp : Nat → Bool) (hd : Bool), DataW.TrodAll enc P W' b sp hd f.resultTypes.toList (v.resultList f.resultTypes.size) (s.fn H (ds ++ gs)).results [])
    (ha : ∀ sp : Nat → Bool, (∀ p ∈ before, sp p.block = true) → DataW.TrodAll enc P W' 0 sp true f.params.toList args.toList (s.fn H (ds ++ gs)).args pa)
    (hv : ∀ sp : Nat → Bool, (∀ p ∈ before, sp p.block = true) → DataW.TrodVars enc P W' sp s.vars (s.fn H (ds ++ gs)).vars pv)
    (hk : ∀ (j : Nat) (t : TypeId) (r : Value), f.resultTypes[j]? = some t → (v.resultList f.resultTypes.size)[j]? = some r → Value.okWide P W' .any 0 t r)
    (hb : Below W.heap.size W W') : s.post enc P f apart fresh handsOn again W args v W' := by
  have inside : ∀ p, p ∈ before → p.block < W.heap.size := fun p hp => hW.lt p hp
  have keep : ∀ p ∈ before, (decide ((p : MemPlace).block < W.heap.size)) = true := fun p hp => decide_eq_true (inside p hp)
  refine ⟨ds, gs, before, [], pa, pv, hW, hr _ _ _, ha (fun b => decide (b < W.heap.size)) keep, hv (fun b => decide (b < W.heap.size)) keep, ?_, ?_⟩
  · refine World.keptBut_mono (fun p hp => ⟨hp, ?_⟩) (hb.frame (· ∈ before))
    right
    rw [hsplit, List.mem_append] at hp
    exact hp
  · intro _
    obtain ⟨_, _, _, _, _, hz, hn⟩ := hW
    have e : [] ++ pa ++ pv = before := by rw [hsplit, List.nil_append]
    refine ⟨hk, _, _, [] ++ pa ++ pv, ⟨[] ++ pa, pv, trodAll_append (ha _ fun _ _ => rfl) (hr _ _ _), hv _ fun _ _ => rfl, rfl, fun b off hp => ?_, fun h => ?_⟩, fun p hp _ => ?_⟩
    · rw [e] at hp
      rw [hb.frozen (inside _ hp)]
      exact hz b off hp
    · have := hn h
      rw [← e] at this
      simpa using this
    · rw [e] at hp
      simpa using hp
end Go.Proofs.Ytlbkofidcpkphaa

namespace Go.Proofs.Ytlbkofidcpkphaa.rimKnown
open Go.ChangeShapes Go.WideShapes Go.ChangeAt Go.RowKit

theorem own : ownKnob Try.prog.godebug = none := by kernel_rfl
theorem known_any (w : World) : Calls Try.prog 15 #[] w fun e w' => e = .returned (.bool true) ∧ Below w.heap.size w w' := by
  refine (Eng.rimKnown_call.calls (fun _ => False) w #[] (fun _ h => h.elim) rfl (by simp)).mono ?_
  rintro e w' ⟨v, rfl, hb, hv⟩
  cases hv
  exact ⟨rfl, hb⟩

set_option maxRecDepth 100000 in
theorem lifted (os : Os) (started : os.Started) (H : Type) (enc : TypeId × Value → H) :
    ReturnsInHanded {} Try.checked os 15 .any (Rows.rimKnownSpec.pre6 enc Try.prog Try.f15 Rows.rimKnownRow.domain false) (Rows.rimKnownSpec.post enc Try.prog Try.f15 false true false false) := by
  refine returnsInHanded_of_change (C := Try.checked) own started (by kernel_rfl) Try.func15
    (ChangeSpec.witness6 (enc := enc) (C := Try.checked) false ⟨#[], #[], []⟩ 8 (by kernel_rfl) (by kernel_rfl) (by kernel_rfl) (by kernel_rfl)) ?_
  intro W base args ds gs before hval0 hW hcnd _
  have hW' := hW
  obtain ⟨p, q, hA0, hV, rfl, hfz, hnd⟩ := hW
  have hA : DataW.TrodAll enc Try.prog W 0 (fun _ => true) true Try.f15.params.toList args.toList ds p := hA0
  rw [Try.params15] at hA
  obtain ⟨rfl, rfl, rfl⟩ := trodAll_none hA
  obtain ⟨rfl, rfl⟩ := trodVars_none hV
  clear hA0 hval0
  simp only [List.append_nil] at hW'
  refine (known_any W).mono fun e W' ⟨he, hb⟩ => ?_
  subst he
  exact ⟨_, rfl, post_later (pa := []) (pv := []) hW' rfl (fun _ _ _ => (trodAll_cons_mk (shut_bool Try.underlying4 _) trodAll_mk0)) (fun sp _ => rfl) (fun _ _ => rfl)
    (ok_one (by kernel_rfl) rfl (okWide_bool_mk Try.underlying4 _)) hb⟩

theorem over : Rows.rimKnownRow.holds Try.pinned (OpenSpec.ofChange Rows.rimKnownSpec) :=
  OpenClaim.holds_of_wide 15 Try.f15 rfl rfl rfl rfl rfl rfl rfl ⟨rfl, rfl, rfl, rfl, rfl⟩ rfl rfl rfl rfl rfl (by kernel_rfl) Try.func15 (by kernel_rfl)
    (of_decide_eq_true (by kernel_rfl)) (by unfold Func.isWrapper; first | (rw [if_pos (by decide +kernel)]; kernel_rfl) | (rw [if_neg (by decide +kernel)]; exact ⟨rfl, rfl⟩))
    (fun os started H enc _ => lifted os started H enc)

theorem proved : Rows.RimKnownSaid := over
end Go.Proofs.Ytlbkofidcpkphaa.rimKnown
