/-
  CrossKnown returns true, at every start: the examples of the chapter of layer 6 are as the chapter says. No condition.
-/
import Derived.Test.YtjjoiihgpkhndaaDn5
import Derived.Test.YtjjoiihgpkhndaaRows
import Derived.ProofKit
import Derived.OpenShut
import Derived.Below
import Derived.ChangeSame
set_option linter.unusedSimpArgs false
set_option linter.unusedVariables false
/-
  CrK returns true: the calls that it makes are known. Written by gen/wk.py.
-/
noncomputable section
namespace Go.Proofs.Ytjjoiihgpkhndaa.Eng
open Go.RowKit
set_option maxRecDepth 100000
def cbK : Known := ⟨[cb1, cb2, cb3, cb4, cb5], [(14, .bool true)], SMS⟩
theorem cbK_ok : KnownOk Try.prog cbK := (known_ent cb1_ok (known_ent cb2_ok (known_ent cb3_ok (known_ent cb4_ok (known_ent cb5_ok (known_closed works_call (known_sums smsOk)))))))
theorem crossKnown_call : ACall Try.prog 12 [] (.val (.bool true)) := closed_callW (n := 600) tabOk ztOk qtOk mtOk cbK_ok noGor mixed (chkVW_ok (by decide +kernel))
end Go.Proofs.Ytjjoiihgpkhndaa.Eng

/-
  The last step of a law's row, from 'what was there is as it was' alone.
-/
namespace Go.Proofs.Ytjjoiihgpkhndaa
open Go.ChangeShapes Go.WideShapes Go.ChangeAt Go.RowKit

/-- A law that takes no package variable: it answers, what was there is as it was, and the arguments read as they did. -/
theorem post_later {H : Type} {enc : TypeId × Value → H} {P : Program} {f : Func} {s : ChangeSpec} {apart fresh handsOn again : Bool} {W W' : World} {args : Array Value} {v : Value} {ds gs : List (DataW H)} {before pa pv : List MemPlace}
    (hW : DataW.Whole enc P f.params.toList s.vars apart W args.toList ds gs before) (hsplit : before = pa ++ pv)
    (hr : ∀ (b : Nat) (sp : Nat → Bool) (hd : Bool), DataW.TrodAll enc P W' b sp hd f.resultTypes.toList (v.resultList f.resultTypes.size) (s.fn H (ds ++ gs)).results [])
    (ha : ∀ sp : Nat → Bool, (∀ p ∈ before, sp p.block = true) → DataW.TrodAll enc P W' 0 sp true f.params.toList args.toList (s.fn H (ds ++ gs)).args pa)
    (hv : ∀ sp : Nat → Bool, (∀ p ∈ before, sp p.block = true) → DataW.TrodVars enc P W' sp s.vars (s.fn H (ds ++ gs)).vars pv)
    (hk : ∀ (j : Nat) (t : TypeId) (r : Value), f.resultTypes[j]? = some t → (v.resultList f.resultTypes.size)[j]? = some r → Value.okWide P W' .any 0 t r)
    (hb : Below W.heap.size W W') : s.post enc P f apart fresh handsOn again W args v W' := by
  have inside : ∀ p, p ∈ before → p.block < W.heap.size := fun p hp => hW.lt p hp
  have keep : ∀ p ∈ before, (decide ((p : MemPlace).block < W.heap.size)) = true := fun p hp => decide_eq_true (inside p hp)
  refine ⟨ds, gs, before, [], pa, pv, hW, hr _ _ _, ha (fun b => decide (b < W.heap.size)) keep, hv (fun b => decide (b < W.heap.size)) keep, ?_, ?_⟩
  · refine World.keptBut_mono (fun p hp => ⟨hp, ?_⟩) (hb.frame (· ∈ before))
    right
    rw [hsplit, List.mem_append] at hp
    exact hp
  · intro _
    obtain ⟨_, _, _, _, _, hz, hn⟩ := hW
    have e : [] ++ pa ++ pv = before := by rw [hsplit, List.nil_append]
    refine ⟨hk, _, _, [] ++ pa ++ pv, ⟨[] ++ pa, pv, trodAll_append (ha _ fun _ _ => rfl) (hr _ _ _), hv _ fun _ _ => rfl, rfl, fun b off hp => ?_, fun h => ?_⟩, fun p hp _ => ?_⟩
    · rw [e] at hp
      rw [hb.frozen (inside _ hp)]
      exact hz b off hp
    · have := hn h
      rw [← e] at this
      simpa using this
    · rw [e] at hp
      simpa using hp
end Go.Proofs.Ytjjoiihgpkhndaa

namespace Go.Proofs.Ytjjoiihgpkhndaa.crossKnown
open Go.ChangeShapes Go.WideShapes Go.ChangeAt Go.RowKit

theorem own : ownKnob Try.prog.godebug = none := by kernel_rfl
theorem known_any (w : World) : Calls Try.prog 12 #[] w fun e w' => e = .returned (.bool true) ∧ Below w.heap.size w w' := by
  refine (Eng.crossKnown_call.calls (fun _ => False) w #[] (fun _ h => h.elim) rfl (by simp)).mono ?_
  rintro e w' ⟨v, rfl, hb, hv⟩
  cases hv
  exact ⟨rfl, hb⟩

set_option maxRecDepth 100000 in
theorem lifted (os : Os) (started : os.Started) (H : Type) (enc : TypeId × Value → H) :
    ReturnsInHanded {} Try.checked os 12 .any (Rows.crossKnownSpec.pre6 enc Try.prog Try.f12 Rows.crossKnownRow.domain false) (Rows.crossKnownSpec.post enc Try.prog Try.f12 false true false false) := by
  refine returnsInHanded_of_change (C := Try.checked) own started (by kernel_rfl) Try.func12
    (ChangeSpec.witness6 (enc := enc) (C := Try.checked) false ⟨#[], #[], []⟩ 8 (by kernel_rfl) (by kernel_rfl) (by kernel_rfl) (by kernel_rfl)) ?_
  intro W base args ds gs before hval0 hW hcnd _
  have hW' := hW
  obtain ⟨p, q, hA0, hV, rfl, hfz, hnd⟩ := hW
  have hA : DataW.TrodAll enc Try.prog W 0 (fun _ => true) true Try.f12.params.toList args.toList ds p := hA0
  rw [Try.params12] at hA
  obtain ⟨rfl, rfl, rfl⟩ := trodAll_none hA
  obtain ⟨rfl, rfl⟩ := trodVars_none hV
  clear hA0 hval0
  simp only [List.append_nil] at hW'
  refine (known_any W).mono fun e W' ⟨he, hb⟩ => ?_
  subst he
  exact ⟨_, rfl, post_later (pa := []) (pv := []) hW' rfl (fun _ _ _ => (trodAll_cons_mk (shut_bool Try.underlying4 _) trodAll_mk0)) (fun sp _ => rfl) (fun _ _ => rfl)
    (ok_one (by kernel_rfl) rfl (okWide_bool_mk Try.underlying4 _)) hb⟩

theorem over : Rows.crossKnownRow.holds Try.pinned (OpenSpec.ofChange Rows.crossKnownSpec) :=
  OpenClaim.holds_of_wide 12 Try.f12 rfl rfl rfl rfl rfl rfl rfl ⟨rfl, rfl, rfl, rfl, rfl⟩ rfl rfl rfl rfl rfl (by kernel_rfl) Try.func12 (by kernel_rfl)
    (of_decide_eq_true (by kernel_rfl)) (by unfold Func.isWrapper; first | (rw [if_pos (by decide +kernel)]; kernel_rfl) | (rw [if_neg (by decide +kernel)]; exact ⟨rfl, rfl⟩))
    (fun os started H enc _ => lifted os started H enc)

theorem proved : Rows.CrossKnownSaid := over
end Go.Proofs.Ytjjoiihgpkhndaa.crossKnown
