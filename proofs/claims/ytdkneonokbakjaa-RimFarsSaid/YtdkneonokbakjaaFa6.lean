/-
  A part of the texts that the claim builds on: see the last one.
-/
import Derived.Test.YtdkneonokbakjaaFa5
import Derived.StillTail
import Derived.Deep.OwnRows
import Derived.Laws.CopyOwn
set_option linter.unusedSimpArgs false
set_option linter.unusedVariables false
noncomputable section
namespace Go.Proofs.Ytdkneonokbakjaa.Eng
open Go.RowKit
variable {P : Program} {T : Tab} {r : Option Nat} {ns : Nat}
section
variable {F : Fence} {n : Nat} {ops : Array Oper} {Q Qh : Exit → Act → World → Prop}
theorem wpIn_from {o : Oper} {a : Act} {w : World} {K : Act → World → Prop} (h0 : ∀ e a w, Qh e a w → e = .normal) (hh : o.wpIn F n P a w K Qh) : o.wpIn F n P a w K Q := by
  unfold Oper.wpIn at *
  refine ⟨hh.1, ?_⟩
  have hh := hh.2
  have no : ∀ c a w, ¬ Qh (.panic c) a w := fun c a w h => by cases h0 _ _ _ h
  generalize (o.semAt F.round a.eval).run P w = r at *
  cases r with
  | ok x w' =>
    cases x <;> simp only [Oper.uponIn] at hh ⊢ <;>
      first
        | exact hh
        | exact ⟨hh.1, CallsIn.mono hh.2 (fun e w'' he => by cases e <;> first | exact he | exact absurd he (no _ _ _) | (obtain ⟨_, _, hx⟩ := he; cases h0 _ _ _ hx))⟩
        | exact ⟨hh.1, RoundIn.mono hh.2 (fun e w'' he => by cases e <;> first | exact he | exact absurd he (no _ _ _) | (obtain ⟨_, _, hx⟩ := he; cases h0 _ _ _ hx))⟩
  | halt x w' => cases x <;> simp only [Oper.uponIn] at hh ⊢ <;> first | exact hh | exact absurd hh (no _ _ _)
theorem wpAnyIn_more : ∀ (f k : Nat) (L : Array Bool) (a : Act) (w : World), wpAnyIn F n P .any ops Q f L a w → wpAnyIn F n P .any ops Q (f + k) L a w
  | 0, 0, _, _, _, h => h
  | 0, k + 1, L, a, w, h => by
    rw [show 0 + (k + 1) = k + 1 by omega]
    exact ⟨fun _ => h.2, fun i hi => by rw [h.1] at hi; cases hi⟩
  | f + 1, k, L, a, w, h => by
    rw [show f + 1 + k = (f + k) + 1 by omega]
    exact ⟨h.1, fun i hi => wpOpIn_mono (fun a w h => wpAnyIn_more f k _ a w h) (h.2 i hi)⟩
theorem wpAnyIn_seq : ∀ (l : List Oper) (k : Nat) (L : Array Bool) (a : Act) (w : World), (∀ j, l[j]? = ops[k + j]?) →
    Region.seqB .any ops l.length k L = true → wpListIn F n P ops Q l a w → wpAnyIn F n P .any ops Q l.length L a w
  | [], _, _, _, _, _, hB, h => ⟨by simpa [Region.seqB] using hB, h⟩
  | o :: l, k, L, a, w, hl, hB, h => by
    have h0 : ops[k]? = some o := by simpa using (hl 0).symm
    simp only [List.length_cons, Region.seqB, Bool.and_eq_true, decide_eq_true_eq] at hB
    refine ⟨fun h1 => (by rw [hB.1] at h1; cases h1), fun i hi => ?_⟩
    rw [hB.1] at hi
    have hik : i = k := by simpa using hi
    subst hik
    have hw : wpOpIn F n P ops Q i (wpListIn F n P ops Q l) a w := by unfold wpOpIn; simp only [h0]; exact h
    exact wpOpIn_mono (fun a' w' h' => wpAnyIn_seq l (i + 1) _ a' w' (fun j => by have := hl (j + 1); simpa [Nat.add_assoc, Nat.add_comm 1 j] using this) hB.2 h') hw
end
def headB (l : List Oper) (n : Nat) : Bool := backB (l.take n).toArray && ((l.take n).all fun o => match o.guard with
  | some (g, _) => decide (g < n)
  | none => true) && decide (n < l.length)
def listedTo (len n : Nat) : Array Bool := ((List.range len).map fun i => decide (i < n)).toArray
def tailB (l : List Oper) (n : Nat) : Bool := headB l n && (Region.sinkB .any l.toArray n && (Region.chainB .any l.toArray n && Region.seqB .any l.toArray (l.length - n) n (listedTo l.length n)))
section
variable {F : Fence} {j n : Nat} {l : List Oper} {Q Qh : Exit → Act → World → Prop}
theorem take_at (l : List Oper) {n i : Nat} (h : i < n) : (l.take n).toArray[i]? = l.toArray[i]? := by simp [h]
theorem yielded_take (l : List Oper) {n g : Nat} (h : g < n) (tmps : Array Value) : yielded (l.take n).toArray tmps g = yielded l.toArray tmps g := by
  unfold yielded
  rw [take_at l h]
theorem ready_head (hB : headB l n = true) {L L' : Array Bool} (hL : ∀ i, i < n → L'.getD i true = L.getD i true) (hL2 : ∀ i, i < n → L'.getD i false = L.getD i false) {i : Nat} (hi : i < n) : i ∈ Region.ready .any l.toArray L' ↔ i ∈ Region.ready .any (l.take n).toArray L := by
  simp only [headB, Bool.and_eq_true, decide_eq_true_eq] at hB
  rw [mem_ready, mem_ready, hL i hi, take_at l hi]
  refine and_congr_right fun _ => exists_congr fun o => and_congr_right fun ho => forall_congr' fun e => forall_congr' fun he => forall_congr' fun hb => ?_
  have hlt : e.on < i := by
    have := hB.1.1
    unfold backB at this
    rw [List.all_eq_true] at this
    have h2 := this i (by rw [List.mem_range]; simp; omega)
    rw [take_at l hi, ho] at h2
    simp only [Option.map_some, Option.getD_some, Array.all_eq_true'] at h2
    have h3 := h2 e he
    rw [hb] at h3
    simpa using h3
  rw [hL2 e.on (by omega)]
theorem wpAnyIn_tail (hB : tailB l n = true) (h0 : ∀ e a w, Qh e a w → e = .normal) (hT : ∀ a w, Qh .normal a w → wpListIn F j P l.toArray Q (l.drop n) a w) :
    ∀ (f : Nat) (L L' : Array Bool) (a : Act) (w : World), L.size = n → HeadInv .any l.toArray n L' → (∀ i, i < n → L'.getD i true = L.getD i true) → (∀ i, i < n → L'.getD i false = L.getD i false) →
      wpAnyIn F j P .any (l.take n).toArray Qh f L a w → wpAnyIn F j P .any l.toArray Q (f + (l.length - n)) L' a w := by
  have hB' := hB
  simp only [tailB, Bool.and_eq_true] at hB'
  obtain ⟨hh, hs, hc, hq⟩ := hB'
  have hh' := hh
  simp only [headB, Bool.and_eq_true, decide_eq_true_eq] at hh'
  obtain ⟨⟨hback, hgd⟩, hn⟩ := hh'
  have hsz : (l.take n).toArray.size = n := by simp; omega
  have done : ∀ (L L' : Array Bool) (a : Act) (w : World), L.size = n → HeadInv .any l.toArray n L' → (∀ i, i < n → L'.getD i true = L.getD i true) → Region.ready .any (l.take n).toArray L = [] → Qh .normal a w → wpAnyIn F j P .any l.toArray Q (l.length - n) L' a w := by
    intro L L' a w hLs inv hL hr hQ
    have hall := all_listed (ops := (l.take n).toArray) (listed := L) (by rw [hLs, hsz]) hback hr
    have hL' : L' = listedTo l.length n := by
      apply Array.ext
      · rw [inv.size]; simp [listedTo]
      · intro i h1 h2
        have hsz' : i < l.length := by have := inv.size; simp at this; omega
        have e1 : L'.getD i true = L'[i] := by simp [Array.getD, h1]
        rw [← e1]
        by_cases hi : i < n
        · rw [hL i hi, hall i (by rw [hsz]; exact hi)]
          simp [listedTo, hi]
        · rw [inv.tail i (by omega) (by simpa using hsz')]
          simp [listedTo, hi]
    have hd : (l.drop n).length = l.length - n := by simp
    have := wpAnyIn_seq (F := F) (n := j) (P := P) (ops := l.toArray) (Q := Q) (l.drop n) n L' a w (fun i => by simp [List.getElem?_drop]) (by rw [hd, hL']; exact hq) (hT a w hQ)
    rwa [hd] at this
  intro f
  induction f with
  | zero =>
    intro L L' a w hLs inv hL hL2 h
    rw [Nat.zero_add]
    exact done L L' a w hLs inv hL h.1 h.2
  | succ f ih =>
    intro L L' a w hLs inv hL hL2 h
    by_cases hr : Region.ready .any (l.take n).toArray L = []
    · have := wpAnyIn_more _ (f + 1) _ _ _ (done L L' a w hLs inv hL hr (h.1 hr))
      rwa [Nat.add_comm] at this
    rw [show f + 1 + (l.length - n) = (f + (l.length - n)) + 1 by omega]
    obtain ⟨i0, hi0⟩ := List.exists_mem_of_ne_nil _ hr
    have hi0n : i0 < n := by
      obtain ⟨_, o, ho, _⟩ := mem_ready.1 hi0
      have := (Array.getElem?_eq_some_iff.1 ho).1
      rw [hsz] at this
      exact this
    have hun : L'.getD i0 true = false := by rw [hL i0 hi0n]; exact (mem_ready.1 hi0).1
    refine ⟨fun h1 => ?_, fun i hi => ?_⟩
    · have := (ready_head hh hL hL2 hi0n).2 hi0
      rw [h1] at this
      cases this
    · have hin : i < n := by
        rcases Nat.lt_or_ge i n with h2 | h2
        · exact h2
        · exact absurd hi (tail_waits hs hc (by simpa using hn) inv _ i0 rfl hi0n hun i h2)
      have hi2 := (ready_head hh hL hL2 hin).1 hi
      have hw := h.2 i hi2
      unfold wpOpIn at hw ⊢
      rw [take_at l hin] at hw
      have hset : ∀ k b, k < n → (L'.setIfInBounds i true).getD k b = (L.setIfInBounds i true).getD k b := fun k b hk => by
        by_cases hki : k = i
        · subst hki
          have h3 : k < L'.size := by rw [inv.size]; simp; omega
          simp [h3, hLs, hk]
        · rw [getD_set_ne b (Ne.symm hki), getD_set_ne b (Ne.symm hki)]
          cases b
          · exact hL2 k hk
          · exact hL k hk
      have hK : ∀ a w, wpAnyIn F j P .any (l.take n).toArray Qh f (L.setIfInBounds i true) a w → wpAnyIn F j P .any l.toArray Q (f + (l.length - n)) (L'.setIfInBounds i true) a w :=
        fun a w h => ih _ _ a w (by simp [hLs]) (inv.set hi hin) (fun k hk => hset k true hk) (fun k hk => hset k false hk) h
      split
      · rename_i ho
        rw [ho] at hw
        exact hK _ _ hw
      · rename_i o ho
        simp only [ho] at hw
        have hwant : Region.wanted o (yielded (l.take n).toArray a.tmps) = Region.wanted o (yielded l.toArray a.tmps) := by
          unfold Region.wanted
          have hmem : o ∈ l.take n := by
            have := take_at l hin
            rw [ho] at this
            exact List.mem_of_getElem? (by simpa using this)
          have hgo := List.all_eq_true.1 hgd o hmem
          cases hg : o.guard with
          | none => rfl
          | some q =>
            obtain ⟨g, b⟩ := q
            rw [hg] at hgo
            simp only [decide_eq_true_eq] at hgo
            simp only [yielded_take l hgo]
        rw [hwant] at hw
        split
        · rename_i hc
          rw [if_pos hc] at hw
          exact wpIn_from h0 (Oper.wpIn_mono hK hw)
        · rename_i hc
          rw [if_neg hc] at hw
          exact ⟨hw.1, hK _ _ hw.2⟩
end
theorem drawsT_core (hm : P.follows .mixedOrders = true) {id : Nat} {l : List Oper} {n : Nat} (hBk : backB (l.take n).toArray = true) (hB : tailB l n = true) {st : Nat → St} {N : Nat → Nat} {kd : Nat → Kd3} (hD : Draw3 P r ns (l.take n) st N kd) {Q : Post}
    {W0 : Fix} {R0 : Nat → Prop} {B : Nat} {E : Env} {a : Act} {w : World} (hi : InAct r W0 R0 B) (hs : Sim W0 R0 ns (· < N 0) (st 0) E a w)
    (hT : ∀ E' a' w', Sim W0 R0 ns (· < N (l.take n).length) (st (l.take n).length) E' a' w' → wpListIn (fen (rOf W0 r)) 0 P l.toArray (fun e a' w' => ∃ n' s' E' W1, Ext W0 W1 ∧ InAct r W1 R0 B ∧ Sim W1 R0 ns (· < n') s' E' a' w' ∧ Q e n' s') (l.drop n) a' w') :
    (Code.region id l.toArray true).wpIn (fen (rOf W0 r)) 0 P (fun e a' w' => ∃ n' s' E' W1, Ext W0 W1 ∧ InAct r W1 R0 B ∧ Sim W1 R0 ns (· < n') s' E' a' w' ∧ Q e n' s') a w := by
  have h1 := draw_any3 hBk hD hi (E := E) (a := a) hs.drew (Q := fun e a' w' => e = .normal ∧ ∃ E', Sim W0 R0 ns (· < N (l.take n).length) (st (l.take n).length) E' a' w') (fun E' a' w' h => ⟨rfl, E', h⟩)
  refine wpIn_region_any hm ?_
  have hn : n < l.length := by
    simp only [tailB, headB, Bool.and_eq_true, decide_eq_true_eq] at hB
    exact hB.1.2
  have hsz : (l.take n).toArray.size = n := by simp; omega
  rw [hsz] at h1
  have h2 := wpAnyIn_tail (j := 0) (Q := fun e a' w' => ∃ n' s' E' W', Ext W0 W' ∧ InAct r W' R0 B ∧ Sim W' R0 ns (· < n') s' E' a' w' ∧ Q e n' s') hB (fun e a w h => h.1) (fun a' w' ⟨_, E', h⟩ => hT E' a' w' h) n (Array.replicate n false) (Array.replicate l.length false) a _ (by simp)
    ⟨by simp, fun j oj _ hl => (by rw [getD_replicate_false] at hl; cases hl), fun t _ ht => getD_in (by simpa using ht) (getD_replicate_false _ _)⟩ (fun i hi => by simp [hi, show i < l.length by omega]) (fun i hi => by simp [hi, show i < l.length by omega]) h1
  rw [show n + (l.length - n) = l.length by omega] at h2
  simpa using h2
theorem AWi.drawsT (hT : TabOk P T) (hm : P.follows .mixedOrders = true) {id : Nat} {l : List Oper} (n : Nat) (hst : stOk (l.take n).toArray = true) (hB : tailB l n = true) {n0 : Nat} {s : St} {Q : Post}
    (h : ExecV P r ns (l.take n) n0 (l.take n) n0 s [] (fun n' s' => ExecI P r T l.toArray ns n' (l.drop n) s' (fun n'' s'' => Q .normal n'' s''))) : AWi P r ns (.region id l.toArray true) n0 s Q := fun W0 R0 B E a w hi hs => by
  obtain ⟨es, nF, sF, k1, k2, k3⟩ := execV_chain (l.take n) n0 s [] (fun _ h => by cases h) (Nat.le_refl _) h
  have hD := draw3_V k1 hst fun i k ei ek hik hi hk => k3 i k ei ek hik (Nat.zero_le _) hi hk
  have hBk : backB (l.take n).toArray = true := by unfold stOk at hst; rw [Bool.and_eq_true] at hst; exact hst.1
  have e0 := chainV_zero k1
  have eF := chainV_end k1
  exact drawsT_core hm hBk hB hD hi (by rw [e0.1, e0.2]; exact hs) fun E' a' w' h => execI_list hT hi (l.drop n) _ k2 (by rw [eF.1, eF.2] at h; exact h) fun n' s' E' _ _ h1 h2 => ⟨n', s', E', W0, Ext.refl _, hi, h1, h2⟩
end Go.Proofs.Ytdkneonokbakjaa.Eng

noncomputable section
namespace Go.Proofs.Ytdkneonokbakjaa.Eng
open Go.RowKit
variable {P : Program} {T : Tab} {r : Option Nat} {ns : Nat}
def shiftO (k : Nat) (o : Oper) : Oper := { o with after := o.after.filterMap fun e => if e.on < k then none else some { e with on := e.on - k } }
def restO (l : List Oper) (n : Nat) : List Oper := (l.drop (n + 1)).map (shiftO (n + 1))
def midB (l : List Oper) (n : Nat) : Bool := headB l n && (Region.sinkB .any (l.take (n + 1)).toArray n && (((List.range l.length).all fun t => decide (t ≤ n) || (List.range t).any fun u => decide (n ≤ u) && Region.waitsFor .any l.toArray t u) &&
  ((l.drop (n + 1)).all (fun o => o.guard.isNone) && decide (Region.ready .any l.toArray (listedTo l.length n) = [n]))))
section
variable {F : Fence} {j n : Nat} {l : List Oper} {Q Qh : Exit → Act → World → Prop}
theorem mid_waits (hh : headB l n = true) (hs : Region.sinkB .any (l.take (n + 1)).toArray n = true) (hr : ((List.range l.length).all fun t => decide (t ≤ n) || (List.range t).any fun u => decide (n ≤ u) && Region.waitsFor .any l.toArray t u) = true) {L : Array Bool} (inv : HeadInv .any l.toArray n L) {i : Nat} (hi : i < n) (hun : L.getD i true = false) : ∀ t, n ≤ t → t ∉ Region.ready .any l.toArray L := by
  intro t ht hrd
  simp only [headB, Bool.and_eq_true, decide_eq_true_eq] at hh
  obtain ⟨_, ot, hot, hall⟩ := mem_ready.1 hrd
  have htl : t < l.length := by have := (Array.getElem?_eq_some_iff.1 hot).1; simpa using this
  by_cases htn : t = n
  · subst htn
    have hsz : (l.take (t + 1)).toArray.size = t + 1 := by simp; omega
    have inv' : HeadInv .any (l.take (t + 1)).toArray t (L.extract 0 (t + 1)) := by
      have hg : ∀ k b, k < t + 1 → (L.extract 0 (t + 1)).getD k b = L.getD k b := fun k b hk => by
        have := inv.size
        have h2 : k < L.size := by rw [this]; simp; omega
        simp [Array.getD, h2, hk, show k < min (t + 1) L.size by omega]
      refine ⟨by rw [hsz]; have := inv.size; simp at this ⊢; omega, fun k ok hk hl e he hb => ?_, fun u hu1 hu2 => ?_⟩
      · have hk2 : k < t + 1 := by have := (Array.getElem?_eq_some_iff.1 hk).1; rw [hsz] at this; exact this
        rw [take_at l hk2] at hk
        rw [hg k _ hk2] at hl
        have h3 := inv.closed k ok hk hl e he hb
        have h4 : e.on < t + 1 := by
          rcases Nat.lt_or_ge e.on (t + 1) with h | h
          · exact h
          · rcases Nat.lt_or_ge e.on l.length with h5 | h5
            · have := inv.tail e.on (by omega) (by simpa using h5)
              rw [getD_both this] at h3; cases h3
            · have h6 : ¬ e.on < L.size := by rw [inv.size]; simp; omega
              have : L.getD e.on false = false := by simp [Array.getD, h6]
              rw [this] at h3; cases h3
        rw [hg _ _ h4]
        exact h3
      · rw [hsz] at hu2
        rw [hg u _ hu2]
        exact inv.tail u hu1 (by simp; omega)
    refine tail_waits hs (by unfold Region.chainB; rw [List.all_eq_true]; intro x hx; rw [List.mem_range, hsz] at hx; simp; omega) (by rw [hsz]; omega) inv' _ i rfl hi ?_ t (Nat.le_refl _) ?_
    · have h2 : i < L.size := by rw [inv.size]; simp; omega
      have : (L.extract 0 (t + 1)).getD i true = L.getD i true := by simp [Array.getD, h2, show i < min (t + 1) L.size by omega]
      rw [this]; exact hun
    · rw [mem_ready]
      have hg : ∀ k b, k < t + 1 → (L.extract 0 (t + 1)).getD k b = L.getD k b := fun k b hk => by
        have := inv.size
        have h2 : k < L.size := by rw [this]; simp; omega
        simp [Array.getD, h2, hk, show k < min (t + 1) L.size by omega]
      refine ⟨by rw [hg _ _ (by omega)]; exact (mem_ready.1 hrd).1, ot, by rw [take_at l (by omega)]; exact hot, fun e he hb => ?_⟩
      have h3 := hall e he hb
      have h4 : e.on < t + 1 := by
        rcases Nat.lt_or_ge e.on (t + 1) with h | h
        · exact h
        · rcases Nat.lt_or_ge e.on l.length with h5 | h5
          · have := inv.tail e.on (by omega) (by simpa using h5)
            rw [getD_both this] at h3; cases h3
          · have h6 : ¬ e.on < L.size := by rw [inv.size]; simp; omega
            have : L.getD e.on false = false := by simp [Array.getD, h6]
            rw [this] at h3; cases h3
      rw [hg _ _ h4]
      exact h3
  · have h1 := List.all_eq_true.1 hr t (List.mem_range.2 htl)
    rw [Bool.or_eq_true, decide_eq_true_eq] at h1
    obtain ⟨u, hu, h2⟩ := List.any_eq_true.1 (h1.resolve_left (by omega))
    rw [Bool.and_eq_true, decide_eq_true_eq] at h2
    obtain ⟨oj, ho, e, he, hb, rfl⟩ := Region.waitsFor_spec h2.2
    rw [hot] at ho
    cases ho
    have h3 := hall e he hb
    have h4 : e.on < l.length := by have := List.mem_range.1 hu; omega
    rw [getD_both (inv.tail e.on h2.1 (by simpa using h4))] at h3
    cases h3
theorem wpAnyIn_mid (hB : midB l n = true) (h0 : ∀ e a w, Qh e a w → e = .normal) (hT : ∀ a w, Qh .normal a w → wpAnyIn F j P .any l.toArray Q (l.length - n) (listedTo l.length n) a w) :
    ∀ (f : Nat) (L L' : Array Bool) (a : Act) (w : World), L.size = n → HeadInv .any l.toArray n L' → (∀ i, i < n → L'.getD i true = L.getD i true) → (∀ i, i < n → L'.getD i false = L.getD i false) →
      wpAnyIn F j P .any (l.take n).toArray Qh f L a w → wpAnyIn F j P .any l.toArray Q (f + (l.length - n)) L' a w := by
  simp only [midB, Bool.and_eq_true] at hB
  obtain ⟨hh, hs, hc, _, _⟩ := hB
  have hh' := hh
  simp only [headB, Bool.and_eq_true, decide_eq_true_eq] at hh'
  obtain ⟨⟨hback, hgd⟩, hn⟩ := hh'
  have hsz : (l.take n).toArray.size = n := by simp; omega
  have done : ∀ (L L' : Array Bool) (a : Act) (w : World), L.size = n → HeadInv .any l.toArray n L' → (∀ i, i < n → L'.getD i true = L.getD i true) → Region.ready .any (l.take n).toArray L = [] → Qh .normal a w → wpAnyIn F j P .any l.toArray Q (l.length - n) L' a w := by
    intro L L' a w hLs inv hL hr hQ
    have hall := all_listed (ops := (l.take n).toArray) (listed := L) (by rw [hLs, hsz]) hback hr
    have hL' : L' = listedTo l.length n := by
      apply Array.ext
      · rw [inv.size]; simp [listedTo]
      · intro i h1 h2
        have hsz' : i < l.length := by have := inv.size; simp at this; omega
        have e1 : L'.getD i true = L'[i] := by simp [Array.getD, h1]
        rw [← e1]
        by_cases hi : i < n
        · rw [hL i hi, hall i (by rw [hsz]; exact hi)]
          simp [listedTo, hi]
        · rw [inv.tail i (by omega) (by simpa using hsz')]
          simp [listedTo, hi]
    rw [hL']
    exact hT a w hQ
  intro f
  induction f with
  | zero =>
    intro L L' a w hLs inv hL hL2 h
    rw [Nat.zero_add]
    exact done L L' a w hLs inv hL h.1 h.2
  | succ f ih =>
    intro L L' a w hLs inv hL hL2 h
    by_cases hr : Region.ready .any (l.take n).toArray L = []
    · have := wpAnyIn_more _ (f + 1) _ _ _ (done L L' a w hLs inv hL hr (h.1 hr))
      rwa [Nat.add_comm] at this
    rw [show f + 1 + (l.length - n) = (f + (l.length - n)) + 1 by omega]
    obtain ⟨i0, hi0⟩ := List.exists_mem_of_ne_nil _ hr
    have hi0n : i0 < n := by
      obtain ⟨_, o, ho, _⟩ := mem_ready.1 hi0
      have := (Array.getElem?_eq_some_iff.1 ho).1
      rw [hsz] at this
      exact this
    have hun : L'.getD i0 true = false := by rw [hL i0 hi0n]; exact (mem_ready.1 hi0).1
    refine ⟨fun h1 => ?_, fun i hi => ?_⟩
    · have := (ready_head hh hL hL2 hi0n).2 hi0
      rw [h1] at this
      cases this
    · have hin : i < n := by
        rcases Nat.lt_or_ge i n with h2 | h2
        · exact h2
        · exact absurd hi (mid_waits hh hs hc inv hi0n hun i h2)
      have hi2 := (ready_head hh hL hL2 hin).1 hi
      have hw := h.2 i hi2
      unfold wpOpIn at hw ⊢
      rw [take_at l hin] at hw
      have hset : ∀ k b, k < n → (L'.setIfInBounds i true).getD k b = (L.setIfInBounds i true).getD k b := fun k b hk => by
        by_cases hki : k = i
        · subst hki
          have h3 : k < L'.size := by rw [inv.size]; simp; omega
          simp [h3, hLs, hk]
        · rw [getD_set_ne b (Ne.symm hki), getD_set_ne b (Ne.symm hki)]
          cases b
          · exact hL2 k hk
          · exact hL k hk
      have hK : ∀ a w, wpAnyIn F j P .any (l.take n).toArray Qh f (L.setIfInBounds i true) a w → wpAnyIn F j P .any l.toArray Q (f + (l.length - n)) (L'.setIfInBounds i true) a w :=
        fun a w h => ih _ _ a w (by simp [hLs]) (inv.set hi hin) (fun k hk => hset k true hk) (fun k hk => hset k false hk) h
      split
      · rename_i ho
        rw [ho] at hw
        exact hK _ _ hw
      · rename_i o ho
        simp only [ho] at hw
        have hwant : Region.wanted o (yielded (l.take n).toArray a.tmps) = Region.wanted o (yielded l.toArray a.tmps) := by
          unfold Region.wanted
          have hmem : o ∈ l.take n := by
            have := take_at l hin
            rw [ho] at this
            exact List.mem_of_getElem? (by simpa using this)
          have hgo := List.all_eq_true.1 hgd o hmem
          cases hg : o.guard with
          | none => rfl
          | some q =>
            obtain ⟨g, b⟩ := q
            rw [hg] at hgo
            simp only [decide_eq_true_eq] at hgo
            simp only [yielded_take l hgo]
        rw [hwant] at hw
        split
        · rename_i hc
          rw [if_pos hc] at hw
          exact wpIn_from h0 (Oper.wpIn_mono hK hw)
        · rename_i hc
          rw [if_neg hc] at hw
          exact ⟨hw.1, hK _ _ hw.2⟩
theorem restO_at (l : List Oper) (n i : Nat) : (restO l n)[i]? = (l[n + 1 + i]?).map (shiftO (n + 1)) := by simp [restO, List.getElem?_drop]
theorem wpAnyIn_rest (hg : (l.drop (n + 1)).all (fun o => o.guard.isNone) = true) :
    ∀ (f : Nat) (L L' : Array Bool) (a : Act) (w : World), (∀ i, i < n + 1 → L'.getD i true = true) → (∀ i b, n + 1 + i < l.length → L'.getD (n + 1 + i) b = L.getD i b) → L'.size = l.length → L.size = (restO l n).length →
      wpAnyIn F j P .any (restO l n).toArray Q f L a w → wpAnyIn F j P .any l.toArray Q f L' a w := by
  have rdy : ∀ (L L' : Array Bool), (∀ i, i < n + 1 → L'.getD i true = true) → (∀ i b, n + 1 + i < l.length → L'.getD (n + 1 + i) b = L.getD i b) → L'.size = l.length → L.size = (restO l n).length → ∀ i, i ∈ Region.ready .any l.toArray L' ↔ ∃ i', i = n + 1 + i' ∧ i' ∈ Region.ready .any (restO l n).toArray L := by
    intro L L' h1 h2 h3 h4 i
    have hlow : ∀ k, k < n + 1 → k < l.length → L'.getD k false = true := fun k hk hkl => by
      have := h1 k hk
      have h5 : k < L'.size := by omega
      simp [Array.getD, h5] at this ⊢
      exact this
    constructor
    · intro hi
      obtain ⟨hun, o, ho, hall⟩ := mem_ready.1 hi
      have hil : i < l.length := by have := (Array.getElem?_eq_some_iff.1 ho).1; simpa using this
      have hin : n + 1 ≤ i := by
        rcases Nat.lt_or_ge i (n + 1) with h | h
        · rw [h1 i h] at hun; cases hun
        · exact h
      obtain ⟨i', rfl⟩ : ∃ i', i = n + 1 + i' := ⟨i - (n + 1), by omega⟩
      refine ⟨i', rfl, mem_ready.2 ⟨by rw [← h2 i' true hil]; exact hun, shiftO (n + 1) o, ?_, fun e he hb => ?_⟩⟩
      · have : l[n + 1 + i']? = some o := by simpa using ho
        simp [restO_at, this]
      · simp only [shiftO, Array.mem_filterMap] at he
        obtain ⟨e0, he0, h5⟩ := he
        split at h5
        · cases h5
        · rename_i hlt
          cases h5
          have h6 := hall e0 he0 hb
          have h7 : e0.on < l.length := by
            rcases Nat.lt_or_ge e0.on L'.size with h | h
            · omega
            · simp [Array.getD, show ¬ e0.on < L'.size by omega] at h6
          rw [show e0.on = n + 1 + (e0.on - (n + 1)) by omega, h2 _ _ (by omega)] at h6
          exact h6
    · rintro ⟨i', rfl, hi⟩
      obtain ⟨hun, o', ho', hall⟩ := mem_ready.1 hi
      have ho2 : (restO l n)[i']? = some o' := by simpa using ho'
      rw [restO_at, Option.map_eq_some_iff] at ho2
      obtain ⟨o, ho, rfl⟩ := ho2
      have hil := (List.getElem?_eq_some_iff.1 ho).1
      refine mem_ready.2 ⟨by rw [h2 i' true hil]; exact hun, o, by simpa using ho, fun e he hb => ?_⟩
      by_cases hlt : e.on < n + 1
      · exact hlow _ hlt (by omega)
      · have h6 := hall { e with on := e.on - (n + 1) } (by
          simp only [shiftO, Array.mem_filterMap]
          exact ⟨e, he, by simp [hlt]⟩) hb
        have h7 : n + 1 + (e.on - (n + 1)) < l.length := by
          rcases Nat.lt_or_ge (e.on - (n + 1)) L.size with h | h
          · have : (restO l n).length = l.length - (n + 1) := by simp [restO]
            omega
          · simp [Array.getD, show ¬ e.on - (n + 1) < L.size by omega] at h6
        rw [show e.on = n + 1 + (e.on - (n + 1)) by omega, h2 _ _ h7]
        exact h6
  intro f
  induction f with
  | zero =>
    intro L L' a w h1 h2 h3 h4 h
    refine ⟨?_, h.2⟩
    refine List.eq_nil_iff_forall_not_mem.2 fun i hi => ?_
    obtain ⟨i', _, hi'⟩ := (rdy L L' h1 h2 h3 h4 i).1 hi
    rw [h.1] at hi'
    cases hi'
  | succ f ih =>
    intro L L' a w h1 h2 h3 h4 h
    refine ⟨fun he => h.1 (List.eq_nil_iff_forall_not_mem.2 fun i' hi' => ?_), fun i hi => ?_⟩
    · have := (rdy L L' h1 h2 h3 h4 (n + 1 + i')).2 ⟨i', rfl, hi'⟩
      rw [he] at this
      cases this
    · obtain ⟨i', rfl, hi'⟩ := (rdy L L' h1 h2 h3 h4 i).1 hi
      have hw := h.2 i' hi'
      obtain ⟨_, o', ho', _⟩ := mem_ready.1 hi'
      have ho2 : (restO l n)[i']? = some o' := by simpa using ho'
      rw [restO_at, Option.map_eq_some_iff] at ho2
      obtain ⟨o, ho, rfl⟩ := ho2
      have hil := (List.getElem?_eq_some_iff.1 ho).1
      have hK : ∀ a w, wpAnyIn F j P .any (restO l n).toArray Q f (L.setIfInBounds i' true) a w → wpAnyIn F j P .any l.toArray Q f (L'.setIfInBounds (n + 1 + i') true) a w := fun a w hh => by
        refine ih _ _ a w (fun k hk => ?_) (fun k b hk => ?_) (by simp [h3]) (by simp [h4]) hh
        · rw [getD_set_ne _ (by omega)]; exact h1 k hk
        · by_cases hki : k = i'
          · subst hki
            have : (restO l n).length = l.length - (n + 1) := by simp [restO]
            have g1 : n + 1 + k < L'.size := by omega
            have g2 : k < L.size := by omega
            simp [g1, g2]
          · rw [getD_set_ne _ (by omega), getD_set_ne _ (Ne.symm hki)]; exact h2 k b hk
      have hgo : o.guard = none := by
        have := List.all_eq_true.1 hg o (List.mem_of_getElem? (i := i') (by rw [List.getElem?_drop]; exact ho))
        simpa using this
      unfold wpOpIn at hw ⊢
      have e1 : (restO l n).toArray[i']? = some (shiftO (n + 1) o) := ho'
      have e2 : l.toArray[n + 1 + i']? = some o := by simpa using ho
      rw [e1] at hw
      rw [e2]
      simp only at hw ⊢
      have w1 : ∀ f, Region.wanted (shiftO (n + 1) o) f = true := fun f => by unfold Region.wanted shiftO; simp only [hgo]
      have w2 : ∀ f, Region.wanted o f = true := fun f => by unfold Region.wanted; simp only [hgo]
      rw [if_pos (w1 _)] at hw
      rw [if_pos (w2 _)]
      exact Oper.wpIn_mono hK hw
end
theorem AWi.drawsM (hm : P.follows .mixedOrders = true) {id : Nat} {l : List Oper} (n : Nat) (hst : stOk (l.take n).toArray = true) (hst2 : stOk (restO l n).toArray = true) (hB : midB l n = true) {n0 : Nat} {s : St} {Q : Post}
    (h : ExecV P r ns (l.take n) n0 (l.take n) n0 s [] (fun n' s' => ∃ o, l[n]? = some o ∧ o.guard = none ∧ (∀ t, o.dst = some t → t < ns) ∧ ∃ G, StepI P r ns n' s' o G ∧ ∀ n2 s2, G n2 s2 → ExecV P r ns (restO l n) n2 (restO l n) n2 s2 [] (fun n3 s3 => Q .normal n3 s3))) :
    AWi P r ns (.region id l.toArray true) n0 s Q := fun W0 R0 B E a w hi hs => by
  obtain ⟨es, nF, sF, k1, ⟨o, ho, hog, hod, G, hG, hrest⟩, k3⟩ := execV_chain (l.take n) n0 s [] (fun _ h => by cases h) (Nat.le_refl _) h
  have hD := draw3_V k1 hst fun i k ei ek hik hi hk => k3 i k ei ek hik (Nat.zero_le _) hi hk
  have hBk : backB (l.take n).toArray = true := by unfold stOk at hst; rw [Bool.and_eq_true] at hst; exact hst.1
  have hBk2 : backB (restO l n).toArray = true := by unfold stOk at hst2; rw [Bool.and_eq_true] at hst2; exact hst2.1
  have e0 := chainV_zero k1
  have eF := chainV_end k1
  have h1 := draw_any3 hBk hD hi (E := E) (a := a) (by rw [e0.1, e0.2]; exact hs.drew) (Q := fun e a' w' => e = .normal ∧ ∃ E', Sim W0 R0 ns (· < nF) sF E' a' w') (fun E' a' w' h => ⟨rfl, E', by rw [eF.1, eF.2] at h; exact h⟩)
  refine wpIn_region_any hm ?_
  have hB' := hB
  simp only [midB, headB, Bool.and_eq_true, decide_eq_true_eq] at hB'
  obtain ⟨⟨_, hn⟩, _, _, hgr, hready⟩ := hB'
  have hsz : (l.take n).toArray.size = n := by simp; omega
  have hrl : (restO l n).length = l.length - (n + 1) := by simp [restO]
  rw [hsz] at h1
  have hmid : ∀ (a' : Act) (w' : World) (E' : Env), Sim W0 R0 ns (· < nF) sF E' a' w' → wpAnyIn (fen (rOf W0 r)) 0 P .any l.toArray (fun e a' w' => ∃ n' s' E' W', Ext W0 W' ∧ InAct r W' R0 B ∧ Sim W' R0 ns (· < n') s' E' a' w' ∧ Q e n' s') (l.length - n) (listedTo l.length n) a' w' := fun a' w' E' hsm => by
    rw [show l.length - n = (l.length - (n + 1)) + 1 by omega]
    refine ⟨fun h => (by rw [hready] at h; cases h), fun i hi2 => ?_⟩
    rw [hready] at hi2
    obtain rfl : i = n := by simpa using hi2
    have e2 : l.toArray[i]? = some o := by simpa using ho
    unfold wpOpIn
    rw [e2]
    simp only
    rw [if_pos (by unfold Region.wanted; simp only [hog])]
    refine hG W0 R0 B E' a' w' hi hsm hod _ _ fun n2 s2 E2 a2 w2 hg2 hs2 => ?_
    obtain ⟨es2, nF2, sF2, p1, p2, p3⟩ := execV_chain (restO l i) n2 s2 [] (fun _ h => by cases h) (Nat.le_refl _) (hrest n2 s2 hg2)
    have hD2 := draw3_V p1 hst2 fun i k ei ek hik hi hk => p3 i k ei ek hik (Nat.zero_le _) hi hk
    have q0 := chainV_zero p1
    have qF := chainV_end p1
    have h3 := draw_any3 hBk2 hD2 hi (E := E2) (a := a2) (w := w2) (by rw [q0.1, q0.2]; exact hs2) (Q := fun e a' w' => ∃ n' s' E' W', Ext W0 W' ∧ InAct r W' R0 B ∧ Sim W' R0 ns (· < n') s' E' a' w' ∧ Q e n' s') (fun E3 a3 w3 h => ⟨nF2, sF2, E3, W0, Ext.refl _, hi, by rw [qF.1, qF.2] at h; exact h, p2⟩)
    have hsz2 : (restO l i).toArray.size = l.length - (i + 1) := by simpa using hrl
    rw [hsz2] at h3
    refine wpAnyIn_rest hgr _ (Array.replicate (l.length - (i + 1)) false) _ _ _ (fun k hk => ?_) (fun k b hk => ?_) (by simp [listedTo]) (by simp [hrl]) h3
    · by_cases hki : k = i
      · subst hki
        have : k < (listedTo l.length k).size := by simp [listedTo]; omega
        simp [this]
      · rw [getD_set_ne _ (Ne.symm hki)]
        simp [listedTo, show k < i by omega, show k < l.length by omega]
    · rw [getD_set_ne _ (by omega)]
      simp [listedTo, show ¬ i + 1 + k < i by omega, show i + 1 + k < l.length by omega, show k < l.length - (i + 1) by omega]
  have h2 := wpAnyIn_mid (j := 0) (Q := fun e a' w' => ∃ n' s' E' W', Ext W0 W' ∧ InAct r W' R0 B ∧ Sim W' R0 ns (· < n') s' E' a' w' ∧ Q e n' s') hB (fun e a w h => h.1) (fun a' w' ⟨_, E', h⟩ => hmid a' w' E' h) n (Array.replicate n false) (Array.replicate l.length false) a _ (by simp)
    ⟨by simp, fun j oj _ hl => (by rw [getD_replicate_false] at hl; cases hl), fun t _ ht => getD_in (by simpa using ht) (getD_replicate_false _ _)⟩ (fun i hi => by simp [hi, show i < l.length by omega]) (fun i hi => by simp [hi, show i < l.length by omega]) h1
  rw [show n + (l.length - n) = l.length by omega] at h2
  simpa using h2
end Go.Proofs.Ytdkneonokbakjaa.Eng

noncomputable section
namespace Go.Proofs.Ytdkneonokbakjaa.Eng
open Go.RowKit
variable {P : Program}
theorem ACall.ofR {f : FuncId} {ds : List Dat} {d : Dat} (h : RCall P f (ds.map .d) d (fun _ => none)) : ACall P f ds d :=
  ⟨h.callable, fun ro w vs hro hs hr => by
    let E : Env := ⟨ro, fun _ => False, fun _ => ⟨0, 0, 0⟩⟩
    have M : MS (fixOf w) ro (fun _ => False) (fun _ => none) E w := ⟨Kept.refl _ _, fun _ h => h, fun _ h => .inl h, hro, fun _ h => h, fun i b hi => by (cases hi), fun i b hi => by (cases hi), fun i b hi => by (cases hi), fun i b hi => by (cases hi), fun i j b c hi => by (cases hi)⟩
    refine (h.calls (fixOf w) ro (fun _ => False) 0 E w vs (fun _ h => h.elim) M (by simp [hs]) fun i x v hx hv => ?_).mono ?_
    · rw [List.getElem?_map, Option.map_eq_some_iff] at hx
      obtain ⟨d, hd, rfl⟩ := hx
      exact .d _ _ (hr i d v hd hv)
    · rintro e w' ⟨v, E', rfl, M', hE, hw, hv⟩
      cases hv with
      | d _ _ hv =>
      refine ⟨v, rfl, M'.below.below, hv.keep (fun b hb => ?_) fun _ _ => rfl⟩
      rcases M'.ro1 b hb with h | h
      · exact .inl h
      · exact .inr ⟨Nat.le_of_not_lt h, M'.rlt b hb⟩⟩
end Go.Proofs.Ytdkneonokbakjaa.Eng

namespace Go.Proofs.Ytdkneonokbakjaa.Eng
def toD5 : SV → Option Dat
  | .nilS => some (.list [])
  | x => toD2 x
def toD4 : SV → Option Dat
  | .tup l => match mapO toD5 l with
    | some m => some (.tup m)
    | none => none
  | x => toD5 x
theorem toD5_rep {E : Env} {w : World} {x : SV} {d : Dat} {v : Value} (h : toD5 x = some d) (hr : Rep E w x v) : RepD E.ro w d v := by
  unfold toD5 at h
  split at h
  · cases h
    cases hr
    exact .list [] none 0 (fun _ _ => .int .i64 0) (Nat.le_refl _) (Nat.zero_le _) (fun r hr => by cases hr) (fun h => absurd h (by decide)) fun i j r c hi => by simp at hi
  · cases (toD2_rep h).1 hr with | d _ _ h => exact h
theorem toD4_rep {E : Env} {w : World} {x : SV} {d : Dat} {v : Value} (h : toD4 x = some d) (hr : Rep E w x v) : RepD E.ro w d v := by
  unfold toD4 at h
  split at h
  · rename_i l
    split at h
    · rename_i m hm
      cases h
      obtain ⟨hlen, hget⟩ := mapO_get hm
      have hget2 : ∀ (i : Nat) (d : Dat), m[i]? = some d → ∃ x, l[i]? = some x ∧ toD5 x = some d := fun i d hd => by
        have hi : i < l.length := by rw [← hlen]; exact (List.getElem?_eq_some_iff.1 hd).1
        obtain ⟨y, h1, h2⟩ := hget i _ (List.getElem?_eq_getElem hi)
        rw [hd] at h1
        cases h1
        exact ⟨_, List.getElem?_eq_getElem hi, h2⟩
      cases hr with
      | tup _ vs h1 h3 =>
      refine .tup m vs (by rw [h1, hlen]) fun i c v hc hv => ?_
      obtain ⟨x, q1, q2⟩ := hget2 i c hc
      exact toD5_rep q2 (h3 i x v q1 hv)
    · cases h
  · exact toD5_rep h hr
variable {P : Program}
theorem RCall.of4 {f : FuncId} {svs : List SV} {d : Dat} {m : Mem} {n0 : Nat} (h : ∀ n, n0 ≤ n → CWp P f svs n m fun y _ m' => toD4 y = some d ∧ ∀ j, j < n → m' j = m j) : RCall P f svs d m :=
  ⟨(h n0 (Nat.le_refl _)).callable, fun W0 R0 D N E w vs hD M h1 h2 => by
    refine ((h (max N n0) (Nat.le_max_right _ _)).calls W0 R0 E w vs (ms_dom M fun i hi => Nat.lt_of_lt_of_le (hD i hi) (Nat.le_max_left _ _)) h1 h2).mono ?_
    rintro e w' ⟨v, E', n', m', y, rfl, M', hE, hw, hv, hy, hm⟩
    have hlt : ∀ i b, m i = some b → m' i = some b := fun i b hi => by
      rw [hm i (Nat.lt_of_lt_of_le (hD i (M.dom i (M.live i b hi))) (Nat.le_max_left _ _))]; exact hi
    let E2 : Env := { E' with dom := E.dom }
    refine ⟨v, E2, rfl, ⟨M'.below, M'.ro0, M'.ro1, M'.rlt, M.dom, M.live, fun i b hi => ?_, fun i b hi => M'.base i b (hlt i b hi), fun i b hi => M'.frz i b (hlt i b hi), fun i j b c hi hj hn => M'.inj i j b c (hlt i b hi) (hlt j c hj) hn⟩, ⟨hE.ro, fun _ h => h, hE.home⟩, hw, ?_⟩
    · exact Holds.restrict (E := E) (E' := E') (E'' := E2) (w := w) (w' := w') (h0 := E.home i) (h := E'.home i) (fun _ h => h) (fun _ h => h) (fun _ _ => rfl) (M'.mem i b (hlt i b hi)) (M.mem i b hi)
    · exact .d _ _ (toD4_rep (E := E') hy hv)⟩
end Go.Proofs.Ytdkneonokbakjaa.Eng

noncomputable section
namespace Go.Proofs.Ytdkneonokbakjaa.Eng
open Go.RowKit
set_option maxRecDepth 100000
set_option maxHeartbeats 8000000
@[simp] theorem nk1 (n : Nat) : (n = n + 1) = False := by simp only [eq_iff_iff, iff_false]; omega
@[simp] theorem mk1 (n : Nat) : (n + 1 = n) = False := by simp only [eq_iff_iff, iff_false]; omega
@[simp] theorem nk2 (n : Nat) : (n = n + 1 + 1) = False := by simp only [eq_iff_iff, iff_false]; omega
@[simp] theorem mk2 (n : Nat) : (n + 1 + 1 = n) = False := by simp only [eq_iff_iff, iff_false]; omega
@[simp] theorem nk3 (n : Nat) : (n = n + 1 + 1 + 1) = False := by simp only [eq_iff_iff, iff_false]; omega
@[simp] theorem mk3 (n : Nat) : (n + 1 + 1 + 1 = n) = False := by simp only [eq_iff_iff, iff_false]; omega
@[simp] theorem nk4 (n : Nat) : (n = n + 1 + 1 + 1 + 1) = False := by simp only [eq_iff_iff, iff_false]; omega
@[simp] theorem mk4 (n : Nat) : (n + 1 + 1 + 1 + 1 = n) = False := by simp only [eq_iff_iff, iff_false]; omega
@[simp] theorem nk5 (n : Nat) : (n = n + 1 + 1 + 1 + 1 + 1) = False := by simp only [eq_iff_iff, iff_false]; omega
@[simp] theorem mk5 (n : Nat) : (n + 1 + 1 + 1 + 1 + 1 = n) = False := by simp only [eq_iff_iff, iff_false]; omega
@[simp] theorem nk6 (n : Nat) : (n = n + 1 + 1 + 1 + 1 + 1 + 1) = False := by simp only [eq_iff_iff, iff_false]; omega
@[simp] theorem mk6 (n : Nat) : (n + 1 + 1 + 1 + 1 + 1 + 1 = n) = False := by simp only [eq_iff_iff, iff_false]; omega
@[simp] theorem nk7 (n : Nat) : (n = n + 1 + 1 + 1 + 1 + 1 + 1 + 1) = False := by simp only [eq_iff_iff, iff_false]; omega
@[simp] theorem mk7 (n : Nat) : (n + 1 + 1 + 1 + 1 + 1 + 1 + 1 = n) = False := by simp only [eq_iff_iff, iff_false]; omega
@[simp] theorem nk8 (n : Nat) : (n = n + 1 + 1 + 1 + 1 + 1 + 1 + 1 + 1) = False := by simp only [eq_iff_iff, iff_false]; omega
@[simp] theorem mk8 (n : Nat) : (n + 1 + 1 + 1 + 1 + 1 + 1 + 1 + 1 = n) = False := by simp only [eq_iff_iff, iff_false]; omega
@[simp] theorem nk9 (n : Nat) : (n = n + 1 + 1 + 1 + 1 + 1 + 1 + 1 + 1 + 1) = False := by simp only [eq_iff_iff, iff_false]; omega
@[simp] theorem mk9 (n : Nat) : (n + 1 + 1 + 1 + 1 + 1 + 1 + 1 + 1 + 1 = n) = False := by simp only [eq_iff_iff, iff_false]; omega
@[simp] theorem nk10 (n : Nat) : (n = n + 1 + 1 + 1 + 1 + 1 + 1 + 1 + 1 + 1 + 1) = False := by simp only [eq_iff_iff, iff_false]; omega
@[simp] theorem mk10 (n : Nat) : (n + 1 + 1 + 1 + 1 + 1 + 1 + 1 + 1 + 1 + 1 = n) = False := by simp only [eq_iff_iff, iff_false]; omega
@[simp] theorem nk11 (n : Nat) : (n = n + 1 + 1 + 1 + 1 + 1 + 1 + 1 + 1 + 1 + 1 + 1) = False := by simp only [eq_iff_iff, iff_false]; omega
@[simp] theorem mk11 (n : Nat) : (n + 1 + 1 + 1 + 1 + 1 + 1 + 1 + 1 + 1 + 1 + 1 = n) = False := by simp only [eq_iff_iff, iff_false]; omega
@[simp] theorem nk12 (n : Nat) : (n = n + 1 + 1 + 1 + 1 + 1 + 1 + 1 + 1 + 1 + 1 + 1 + 1) = False := by simp only [eq_iff_iff, iff_false]; omega
@[simp] theorem mk12 (n : Nat) : (n + 1 + 1 + 1 + 1 + 1 + 1 + 1 + 1 + 1 + 1 + 1 + 1 = n) = False := by simp only [eq_iff_iff, iff_false]; omega
@[simp] theorem nk13 (n : Nat) : (n = n + 1 + 1 + 1 + 1 + 1 + 1 + 1 + 1 + 1 + 1 + 1 + 1 + 1) = False := by simp only [eq_iff_iff, iff_false]; omega
@[simp] theorem mk13 (n : Nat) : (n + 1 + 1 + 1 + 1 + 1 + 1 + 1 + 1 + 1 + 1 + 1 + 1 + 1 = n) = False := by simp only [eq_iff_iff, iff_false]; omega
@[simp] theorem nk14 (n : Nat) : (n = n + 1 + 1 + 1 + 1 + 1 + 1 + 1 + 1 + 1 + 1 + 1 + 1 + 1 + 1) = False := by simp only [eq_iff_iff, iff_false]; omega
@[simp] theorem mk14 (n : Nat) : (n + 1 + 1 + 1 + 1 + 1 + 1 + 1 + 1 + 1 + 1 + 1 + 1 + 1 + 1 = n) = False := by simp only [eq_iff_iff, iff_false]; omega
@[simp] theorem nk15 (n : Nat) : (n = n + 1 + 1 + 1 + 1 + 1 + 1 + 1 + 1 + 1 + 1 + 1 + 1 + 1 + 1 + 1) = False := by simp only [eq_iff_iff, iff_false]; omega
@[simp] theorem mk15 (n : Nat) : (n + 1 + 1 + 1 + 1 + 1 + 1 + 1 + 1 + 1 + 1 + 1 + 1 + 1 + 1 + 1 = n) = False := by simp only [eq_iff_iff, iff_false]; omega
@[simp] theorem nk16 (n : Nat) : (n = n + 1 + 1 + 1 + 1 + 1 + 1 + 1 + 1 + 1 + 1 + 1 + 1 + 1 + 1 + 1 + 1) = False := by simp only [eq_iff_iff, iff_false]; omega
@[simp] theorem mk16 (n : Nat) : (n + 1 + 1 + 1 + 1 + 1 + 1 + 1 + 1 + 1 + 1 + 1 + 1 + 1 + 1 + 1 + 1 = n) = False := by simp only [eq_iff_iff, iff_false]; omega
@[simp] theorem nk17 (n : Nat) : (n = n + 1 + 1 + 1 + 1 + 1 + 1 + 1 + 1 + 1 + 1 + 1 + 1 + 1 + 1 + 1 + 1 + 1) = False := by simp only [eq_iff_iff, iff_false]; omega
@[simp] theorem mk17 (n : Nat) : (n + 1 + 1 + 1 + 1 + 1 + 1 + 1 + 1 + 1 + 1 + 1 + 1 + 1 + 1 + 1 + 1 + 1 = n) = False := by simp only [eq_iff_iff, iff_false]; omega
@[simp] theorem nk18 (n : Nat) : (n = n + 1 + 1 + 1 + 1 + 1 + 1 + 1 + 1 + 1 + 1 + 1 + 1 + 1 + 1 + 1 + 1 + 1 + 1) = False := by simp only [eq_iff_iff, iff_false]; omega
@[simp] theorem mk18 (n : Nat) : (n + 1 + 1 + 1 + 1 + 1 + 1 + 1 + 1 + 1 + 1 + 1 + 1 + 1 + 1 + 1 + 1 + 1 + 1 = n) = False := by simp only [eq_iff_iff, iff_false]; omega
@[simp] theorem nk19 (n : Nat) : (n = n + 1 + 1 + 1 + 1 + 1 + 1 + 1 + 1 + 1 + 1 + 1 + 1 + 1 + 1 + 1 + 1 + 1 + 1 + 1) = False := by simp only [eq_iff_iff, iff_false]; omega
@[simp] theorem mk19 (n : Nat) : (n + 1 + 1 + 1 + 1 + 1 + 1 + 1 + 1 + 1 + 1 + 1 + 1 + 1 + 1 + 1 + 1 + 1 + 1 + 1 = n) = False := by simp only [eq_iff_iff, iff_false]; omega
@[simp] theorem nk20 (n : Nat) : (n = n + 1 + 1 + 1 + 1 + 1 + 1 + 1 + 1 + 1 + 1 + 1 + 1 + 1 + 1 + 1 + 1 + 1 + 1 + 1 + 1) = False := by simp only [eq_iff_iff, iff_false]; omega
@[simp] theorem mk20 (n : Nat) : (n + 1 + 1 + 1 + 1 + 1 + 1 + 1 + 1 + 1 + 1 + 1 + 1 + 1 + 1 + 1 + 1 + 1 + 1 + 1 + 1 = n) = False := by simp only [eq_iff_iff, iff_false]; omega
@[simp] theorem nk21 (n : Nat) : (n = n + 1 + 1 + 1 + 1 + 1 + 1 + 1 + 1 + 1 + 1 + 1 + 1 + 1 + 1 + 1 + 1 + 1 + 1 + 1 + 1 + 1) = False := by simp only [eq_iff_iff, iff_false]; omega
@[simp] theorem mk21 (n : Nat) : (n + 1 + 1 + 1 + 1 + 1 + 1 + 1 + 1 + 1 + 1 + 1 + 1 + 1 + 1 + 1 + 1 + 1 + 1 + 1 + 1 + 1 = n) = False := by simp only [eq_iff_iff, iff_false]; omega
@[simp] theorem nk22 (n : Nat) : (n = n + 1 + 1 + 1 + 1 + 1 + 1 + 1 + 1 + 1 + 1 + 1 + 1 + 1 + 1 + 1 + 1 + 1 + 1 + 1 + 1 + 1 + 1) = False := by simp only [eq_iff_iff, iff_false]; omega
@[simp] theorem mk22 (n : Nat) : (n + 1 + 1 + 1 + 1 + 1 + 1 + 1 + 1 + 1 + 1 + 1 + 1 + 1 + 1 + 1 + 1 + 1 + 1 + 1 + 1 + 1 + 1 = n) = False := by simp only [eq_iff_iff, iff_false]; omega
@[simp] theorem nk23 (n : Nat) : (n = n + 1 + 1 + 1 + 1 + 1 + 1 + 1 + 1 + 1 + 1 + 1 + 1 + 1 + 1 + 1 + 1 + 1 + 1 + 1 + 1 + 1 + 1 + 1) = False := by simp only [eq_iff_iff, iff_false]; omega
@[simp] theorem mk23 (n : Nat) : (n + 1 + 1 + 1 + 1 + 1 + 1 + 1 + 1 + 1 + 1 + 1 + 1 + 1 + 1 + 1 + 1 + 1 + 1 + 1 + 1 + 1 + 1 + 1 = n) = False := by simp only [eq_iff_iff, iff_false]; omega
@[simp] theorem nk24 (n : Nat) : (n = n + 1 + 1 + 1 + 1 + 1 + 1 + 1 + 1 + 1 + 1 + 1 + 1 + 1 + 1 + 1 + 1 + 1 + 1 + 1 + 1 + 1 + 1 + 1 + 1) = False := by simp only [eq_iff_iff, iff_false]; omega
@[simp] theorem mk24 (n : Nat) : (n + 1 + 1 + 1 + 1 + 1 + 1 + 1 + 1 + 1 + 1 + 1 + 1 + 1 + 1 + 1 + 1 + 1 + 1 + 1 + 1 + 1 + 1 + 1 + 1 = n) = False := by simp only [eq_iff_iff, iff_false]; omega
@[simp] theorem nk25 (n : Nat) : (n = n + 1 + 1 + 1 + 1 + 1 + 1 + 1 + 1 + 1 + 1 + 1 + 1 + 1 + 1 + 1 + 1 + 1 + 1 + 1 + 1 + 1 + 1 + 1 + 1 + 1) = False := by simp only [eq_iff_iff, iff_false]; omega
@[simp] theorem mk25 (n : Nat) : (n + 1 + 1 + 1 + 1 + 1 + 1 + 1 + 1 + 1 + 1 + 1 + 1 + 1 + 1 + 1 + 1 + 1 + 1 + 1 + 1 + 1 + 1 + 1 + 1 + 1 = n) = False := by simp only [eq_iff_iff, iff_false]; omega
@[simp] theorem nk26 (n : Nat) : (n = n + 1 + 1 + 1 + 1 + 1 + 1 + 1 + 1 + 1 + 1 + 1 + 1 + 1 + 1 + 1 + 1 + 1 + 1 + 1 + 1 + 1 + 1 + 1 + 1 + 1 + 1) = False := by simp only [eq_iff_iff, iff_false]; omega
@[simp] theorem mk26 (n : Nat) : (n + 1 + 1 + 1 + 1 + 1 + 1 + 1 + 1 + 1 + 1 + 1 + 1 + 1 + 1 + 1 + 1 + 1 + 1 + 1 + 1 + 1 + 1 + 1 + 1 + 1 + 1 = n) = False := by simp only [eq_iff_iff, iff_false]; omega
@[simp] theorem nk27 (n : Nat) : (n = n + 1 + 1 + 1 + 1 + 1 + 1 + 1 + 1 + 1 + 1 + 1 + 1 + 1 + 1 + 1 + 1 + 1 + 1 + 1 + 1 + 1 + 1 + 1 + 1 + 1 + 1 + 1) = False := by simp only [eq_iff_iff, iff_false]; omega
@[simp] theorem mk27 (n : Nat) : (n + 1 + 1 + 1 + 1 + 1 + 1 + 1 + 1 + 1 + 1 + 1 + 1 + 1 + 1 + 1 + 1 + 1 + 1 + 1 + 1 + 1 + 1 + 1 + 1 + 1 + 1 + 1 = n) = False := by simp only [eq_iff_iff, iff_false]; omega
@[simp] theorem nk28 (n : Nat) : (n = n + 1 + 1 + 1 + 1 + 1 + 1 + 1 + 1 + 1 + 1 + 1 + 1 + 1 + 1 + 1 + 1 + 1 + 1 + 1 + 1 + 1 + 1 + 1 + 1 + 1 + 1 + 1 + 1) = False := by simp only [eq_iff_iff, iff_false]; omega
@[simp] theorem mk28 (n : Nat) : (n + 1 + 1 + 1 + 1 + 1 + 1 + 1 + 1 + 1 + 1 + 1 + 1 + 1 + 1 + 1 + 1 + 1 + 1 + 1 + 1 + 1 + 1 + 1 + 1 + 1 + 1 + 1 + 1 = n) = False := by simp only [eq_iff_iff, iff_false]; omega
@[simp] theorem nk29 (n : Nat) : (n = n + 1 + 1 + 1 + 1 + 1 + 1 + 1 + 1 + 1 + 1 + 1 + 1 + 1 + 1 + 1 + 1 + 1 + 1 + 1 + 1 + 1 + 1 + 1 + 1 + 1 + 1 + 1 + 1 + 1) = False := by simp only [eq_iff_iff, iff_false]; omega
@[simp] theorem mk29 (n : Nat) : (n + 1 + 1 + 1 + 1 + 1 + 1 + 1 + 1 + 1 + 1 + 1 + 1 + 1 + 1 + 1 + 1 + 1 + 1 + 1 + 1 + 1 + 1 + 1 + 1 + 1 + 1 + 1 + 1 + 1 = n) = False := by simp only [eq_iff_iff, iff_false]; omega
@[simp] theorem nk30 (n : Nat) : (n = n + 1 + 1 + 1 + 1 + 1 + 1 + 1 + 1 + 1 + 1 + 1 + 1 + 1 + 1 + 1 + 1 + 1 + 1 + 1 + 1 + 1 + 1 + 1 + 1 + 1 + 1 + 1 + 1 + 1 + 1) = False := by simp only [eq_iff_iff, iff_false]; omega
@[simp] theorem mk30 (n : Nat) : (n + 1 + 1 + 1 + 1 + 1 + 1 + 1 + 1 + 1 + 1 + 1 + 1 + 1 + 1 + 1 + 1 + 1 + 1 + 1 + 1 + 1 + 1 + 1 + 1 + 1 + 1 + 1 + 1 + 1 + 1 = n) = False := by simp only [eq_iff_iff, iff_false]; omega
theorem setMem_lt {m : Mem} {a j : Nat} {b : Option Blk} (h : j < a) : setMem m a b j = m j := if_neg (by omega)
theorem putN_lt {m q : Mem} {a b j : Nat} (h : j < a) : putN m a b q j = m j := if_neg (by omega)
theorem mixedR : Try.prog.follows .mixedOrders = true := by kernel_rfl
abbrev sto5 (s : RS) : List SV := [.d (iD s.long), .d (iD s.short), .d (iD s.off), .d (iD s.lo), .d (iD s.hi)]
def spS (A : Rgs) : List SV := (List.range 12).flatMap fun j => [.d (iD (A j).1), .d (iD (A j).2)]
def whS (s : RS) (ps : List Int) (A : Rgs) : List SV := sto5 s ++ .d (intL ps) :: spS A
@[simp] theorem spS_len (A : Rgs) : (spS A).length = 24 := by simp [spS, List.range_succ]
@[simp] theorem whS_len (s : RS) (ps : List Int) (A : Rgs) : (whS s ps A).length = 30 := by simp [whS]
@[simp] theorem wh0 (s : RS) (ps : List Int) (A : Rgs) : List.take 1 (whS s ps A) = [.d (iD s.long)] := rfl
@[simp] theorem wh1 (s : RS) (ps : List Int) (A : Rgs) : List.take 1 (List.drop 1 (whS s ps A)) = [.d (iD s.short)] := rfl
@[simp] theorem wh1t (s : RS) (ps : List Int) (A : Rgs) : List.take 1 (whS s ps A).tail = [.d (iD s.short)] := rfl
@[simp] theorem wh2 (s : RS) (ps : List Int) (A : Rgs) : List.take 1 (List.drop 2 (whS s ps A)) = [.d (iD s.off)] := rfl
@[simp] theorem wh3 (s : RS) (ps : List Int) (A : Rgs) : List.take 1 (List.drop 3 (whS s ps A)) = [.d (iD s.lo)] := rfl
@[simp] theorem wh4 (s : RS) (ps : List Int) (A : Rgs) : List.take 1 (List.drop 4 (whS s ps A)) = [.d (iD s.hi)] := rfl
@[simp] theorem wh5 (s : RS) (ps : List Int) (A : Rgs) : List.take 1 (List.drop 5 (whS s ps A)) = [.d (intL ps)] := rfl
@[simp] theorem whR (s : RS) (ps : List Int) (A : Rgs) : List.take 5 (whS s ps A) = sto5 s := rfl
@[simp] theorem whA (s : RS) (ps : List Int) (A : Rgs) : List.take 24 (List.drop 6 (whS s ps A)) = spS A := by simp [whS]; exact List.take_of_length_le (by simp)
theorem sp_at (A : Rgs) {p : Nat} (hp : p < 12) : List.take 2 (List.drop (p * 2) (spS A)) = [.d (iD (A p).1), .d (iD (A p).2)] := by
  have h : ∀ p : Fin 12, List.take 2 (List.drop (p.1 * 2) (spS A)) = [.d (iD (A p.1).1), .d (iD (A p.1).2)] := by
    intro p
    match p with
    | ⟨0, _⟩ => rfl
    | ⟨1, _⟩ => rfl
    | ⟨2, _⟩ => rfl
    | ⟨3, _⟩ => rfl
    | ⟨4, _⟩ => rfl
    | ⟨5, _⟩ => rfl
    | ⟨6, _⟩ => rfl
    | ⟨7, _⟩ => rfl
    | ⟨8, _⟩ => rfl
    | ⟨9, _⟩ => rfl
    | ⟨10, _⟩ => rfl
    | ⟨11, _⟩ => rfl
  exact h ⟨p, hp⟩
theorem wh_drop (s : RS) (ps : List Int) (A : Rgs) (k : Nat) : List.drop (6 + k) (whS s ps A) = List.drop k (spS A) := by
  rw [← List.drop_drop]
  rfl
theorem wh_at (s : RS) (ps : List Int) (A : Rgs) {p : Nat} (hp : p < 12) : List.take 2 (List.drop (6 + p * 2) (whS s ps A)) = [.d (iD (A p).1), .d (iD (A p).2)] := by rw [wh_drop, sp_at A hp]
theorem wh_lo (s : RS) (ps : List Int) (A : Rgs) {p : Nat} (hp : p < 12) : (whS s ps A)[6 + p * 2]? = some (.d (iD (A p).1)) := by
  have := wh_at s ps A hp
  have h2 : (List.take 2 (List.drop (6 + p * 2) (whS s ps A)))[0]? = some (.d (iD (A p).1)) := by rw [this]; rfl
  rw [List.getElem?_take, if_pos (by omega), List.getElem?_drop] at h2
  exact h2
abbrev WhAt (s : RS) (ps : List Int) (A : Rgs) (w : Nat) (m : Mem) : Prop := m w = some (.box 83 (whS s ps A) false)
theorem isPulley_w {s : RS} {ps : List Int} {A : Rgs} {w : Nat} {m : Mem} (hm : WhAt s ps A w m) (p : Int) (n : Nat) :
    CWp Try.prog 50 [.ptr w 0 0, .d (iD p)] n m fun y n' m' => n ≤ n' ∧ n' ≤ n + 20 ∧ y = .d (bD (decide (0 ≤ p ∧ p < ps.length))) ∧ m' = m := by
  by_cases g1 : 0 ≤ p
  · by_cases g2 : p < ps.length
    · rw [decide_eq_true ⟨g1, g2⟩]
      refine cwpK tabOk Try.func50 rfl rfl (show 2 ≤ _ by decide) rfl fun _ => ?_; simp only [Try.ntmps50]
      repeat (first | (with_reducible first | refine AWi.seqK fun _ => ?_ | refine AWi.blockK fun _ => ?_ | refine KI.go ?_) | ((first | refine AWi.region tabOk ?_ | refine AWi.condK fun _ _ => ?_ | refine AWi.draws tabOk rfl (by kernel_rfl) (by kernel_rfl) ?_); simp [-getElem?_pos, z0, z1, z2, hm, g1, g2]) | ((first | refine AWi.ret ?_ | refine AWi.skip ?_ | refine AWi.exit ?_); try simp only [thenP]) | (with_reducible refine BB.go ?_; simp only [blockP, thenP, reduceIte]) | (with_reducible refine And.intro (okLog_c (by simp [footOf, guardSlot, slotsOf, idsRead, looks, idsOf, idsOf1, idsWritten, colF]; kernel_rfl)) ?_))
      exact RI.ret rfl ⟨by omega, by omega, rfl, rfl⟩
    · rw [decide_eq_false (fun h => g2 h.2)]
      refine cwpK tabOk Try.func50 rfl rfl (show 2 ≤ _ by decide) rfl fun _ => ?_; simp only [Try.ntmps50]
      repeat (first | (with_reducible first | refine AWi.seqK fun _ => ?_ | refine AWi.blockK fun _ => ?_ | refine KI.go ?_) | ((first | refine AWi.region tabOk ?_ | refine AWi.condK fun _ _ => ?_ | refine AWi.draws tabOk rfl (by kernel_rfl) (by kernel_rfl) ?_); simp [-getElem?_pos, z0, z1, z2, hm, g1, g2]) | ((first | refine AWi.ret ?_ | refine AWi.skip ?_ | refine AWi.exit ?_); try simp only [thenP]) | (with_reducible refine BB.go ?_; simp only [blockP, thenP, reduceIte]) | (with_reducible refine And.intro (okLog_c (by simp [footOf, guardSlot, slotsOf, idsRead, looks, idsOf, idsOf1, idsWritten, colF]; kernel_rfl)) ?_))
      exact RI.ret rfl ⟨by omega, by omega, rfl, rfl⟩
  · rw [decide_eq_false (fun h => g1 h.1)]
    refine cwpK tabOk Try.func50 rfl rfl (show 2 ≤ _ by decide) rfl fun _ => ?_; simp only [Try.ntmps50]
    repeat (first | (with_reducible first | refine AWi.seqK fun _ => ?_ | refine AWi.blockK fun _ => ?_ | refine KI.go ?_) | ((first | refine AWi.region tabOk ?_ | refine AWi.condK fun _ _ => ?_ | refine AWi.draws tabOk rfl (by kernel_rfl) (by kernel_rfl) ?_); simp [-getElem?_pos, z0, z1, z2, hm, g1]) | ((first | refine AWi.ret ?_ | refine AWi.skip ?_ | refine AWi.exit ?_); try simp only [thenP]) | (with_reducible refine BB.go ?_; simp only [blockP, thenP, reduceIte]) | (with_reducible refine And.intro (okLog_c (by simp [footOf, guardSlot, slotsOf, idsRead, looks, idsOf, idsOf1, idsWritten, colF]; kernel_rfl)) ?_))
    exact RI.ret rfl ⟨by omega, by omega, rfl, rfl⟩
theorem span_w {s : RS} {ps : List Int} {A : Rgs} {w : Nat} {m : Mem} (hm : WhAt s ps A w m) (hg : GoodR s) {p : Nat} {t : Int} (ht : ps[p]? = some t) (h1 : 1 ≤ t ∧ t ≤ 10000) (n : Nat) (hw : w < n) :
    CWp Try.prog 87 [.ptr w 0 0, .d (iD p)] n m fun y n' m' => toD3 y = some (rngD (spR s t)) ∧ ∀ j, j < n → m' j = m j := by
  have := hg.s1; have := hg.s2; have := hg.s3; have := hg.o1; have := hg.o2; have := hg.l1; have := hg.l2; have := hg.l3
  have hl := whS_len s ps A
  have hp : p < ps.length := (List.getElem?_eq_some_iff.1 ht).1
  have hpi : (p : Int) < ps.length := by omega
  obtain ⟨a, ha⟩ : ∃ a, a = (s.lo + t - 1) / t := ⟨_, rfl⟩
  obtain ⟨q, hq⟩ : ∃ q, q = s.hi / t := ⟨_, rfl⟩
  have q1 : (s.lo + t - 1).tdiv t = a := by rw [Int.tdiv_eq_ediv_of_nonneg (by omega), ha]
  have q2 : s.hi.tdiv t = q := by rw [Int.tdiv_eq_ediv_of_nonneg (by omega), hq]
  have hp1 : 0 ≤ a := by rw [ha]; exact Int.ediv_nonneg (by omega) (by omega)
  have hp2 : a ≤ 1000010000 := by rw [ha]; exact Int.le_trans (Int.ediv_le_self _ (by omega)) (by omega)
  have hq1 : 0 ≤ q := by rw [hq]; exact Int.ediv_nonneg (by omega) (by omega)
  have hq2 : q ≤ 1000000000 := by rw [hq]; exact Int.le_trans (Int.ediv_le_self _ (by omega)) (by omega)
  obtain ⟨x, hx⟩ : ∃ x, x = max s.short (a + s.off) := ⟨_, rfl⟩
  obtain ⟨y, hy⟩ : ∃ y, y = min s.long (q - s.off) := ⟨_, rfl⟩
  have hres : spR s t = if y < x then (0, 0) else (x, y) := by
    have : betR s t = (x, y) := by rw [betR, ← ha, ← hq, ← hx, ← hy]
    rw [spR, this]
  have m1 : (if s.short < a + s.off then a + s.off else s.short) = x := by rw [hx]; split <;> omega
  have m2 : (if q - s.off < s.long then q - s.off else s.long) = y := by rw [hy]; split <;> omega
  have w1 : IntKind.i64.wrap (s.lo + t) = s.lo + t := wrap64_in (by omega)
  have w2 : IntKind.i64.wrap (s.lo + t - 1) = s.lo + t - 1 := wrap64_in (by omega)
  have w3 : IntKind.i64.wrap a = a := wrap64_in (by omega)
  have w4 : IntKind.i64.wrap q = q := wrap64_in (by omega)
  have w5 : IntKind.i64.wrap (a + s.off) = a + s.off := wrap64_in (by omega)
  have w6 : IntKind.i64.wrap (q - s.off) = q - s.off := wrap64_in (by omega)
  have ht0 : ¬ t = 0 := by omega
  have hwn : ¬ w = n := by omega
  rw [hres]
  by_cases g : y < x
  · rw [if_pos g]
    refine cwpK tabOk Try.func87 rfl rfl (show 2 ≤ _ by decide) rfl fun _ => ?_; simp only [Try.ntmps87]
    repeat (first | (with_reducible first | refine AWi.seqK fun _ => ?_ | refine AWi.blockK fun _ => ?_ | refine KI.go ?_) | ((first | refine AWi.region tabOk ?_ | refine AWi.condK fun _ _ => ?_); simp [-getElem?_pos, z0, z1, z2, hm, hl, hp, hpi, ht, hwn]) | ((first | refine AWi.ret ?_ | refine AWi.skip ?_ | refine AWi.exit ?_); try simp only [thenP]) | (with_reducible refine BB.go ?_; simp only [blockP, thenP, reduceIte]))
    refine AWi.drawsT tabOk mixedR 45 (by kernel_rfl) (by kernel_rfl) ?_
    simp only [List.take_succ_cons, List.take_zero, List.drop_succ_cons, List.drop_zero]
    repeat (with_reducible refine ExecV.auto tabOk ?_; simp [-getElem?_pos, z0, z1, z2, kindV, isPure, hm, hl, hp, hpi, ht, hwn, w1, w2, w3, w4, w5, w6, q1, q2, m1, m2, ht0, hw]; try (refine And.intro (OkV_old (by simp; try omega) (by omega) (by simp [AllAcc])) ?_))
    unfold ExecV
    simp [-getElem?_pos, z0, z1, z2, g]
    repeat (first | (with_reducible first | refine AWi.seqK fun _ => ?_ | refine AWi.blockK fun _ => ?_ | refine KI.go ?_) | ((first | refine AWi.region tabOk ?_ | refine AWi.condK fun _ _ => ?_); simp [-getElem?_pos, z0, z1, z2, hwn, g]) | ((first | refine AWi.ret ?_ | refine AWi.skip ?_ | refine AWi.exit ?_); try simp only [thenP]) | (with_reducible refine BB.go ?_; simp only [blockP, thenP, reduceIte]))
    refine RI.ret (xs := [.agg [.d (iD 0), .d (iD 0)]]) (by simp [Try.results87, resSlots, resSlot, g]) ?_
    exact ⟨rfl, fun j hj => by (try dsimp only); repeat (first | rw [setMem_lt (by omega)] | rw [putN_lt (by omega)])⟩
  · rw [if_neg g]
    refine cwpK tabOk Try.func87 rfl rfl (show 2 ≤ _ by decide) rfl fun _ => ?_; simp only [Try.ntmps87]
    repeat (first | (with_reducible first | refine AWi.seqK fun _ => ?_ | refine AWi.blockK fun _ => ?_ | refine KI.go ?_) | ((first | refine AWi.region tabOk ?_ | refine AWi.condK fun _ _ => ?_); simp [-getElem?_pos, z0, z1, z2, hm, hl, hp, hpi, ht, hwn]) | ((first | refine AWi.ret ?_ | refine AWi.skip ?_ | refine AWi.exit ?_); try simp only [thenP]) | (with_reducible refine BB.go ?_; simp only [blockP, thenP, reduceIte]))
    refine AWi.drawsT tabOk mixedR 45 (by kernel_rfl) (by kernel_rfl) ?_
    simp only [List.take_succ_cons, List.take_zero, List.drop_succ_cons, List.drop_zero]
    repeat (with_reducible refine ExecV.auto tabOk ?_; simp [-getElem?_pos, z0, z1, z2, kindV, isPure, hm, hl, hp, hpi, ht, hwn, w1, w2, w3, w4, w5, w6, q1, q2, m1, m2, ht0, hw]; try (refine And.intro (OkV_old (by simp; try omega) (by omega) (by simp [AllAcc])) ?_))
    unfold ExecV
    simp [-getElem?_pos, z0, z1, z2, g]
    repeat (first | (with_reducible first | refine AWi.seqK fun _ => ?_ | refine AWi.blockK fun _ => ?_ | refine KI.go ?_) | ((first | refine AWi.region tabOk ?_ | refine AWi.condK fun _ _ => ?_); simp [-getElem?_pos, z0, z1, z2, hwn, g]) | ((first | refine AWi.ret ?_ | refine AWi.skip ?_ | refine AWi.exit ?_); try simp only [thenP]) | (with_reducible refine BB.go ?_; simp only [blockP, thenP, reduceIte]))
    refine RI.ret (xs := [.agg [.d (iD x), .d (iD y)]]) (by simp [Try.results87, resSlots, resSlot, g]) ?_
    exact ⟨rfl, fun j hj => by (try dsimp only); repeat (first | rw [setMem_lt (by omega)] | rw [putN_lt (by omega)])⟩
end Go.Proofs.Ytdkneonokbakjaa.Eng

noncomputable section
namespace Go.Proofs.Ytdkneonokbakjaa.Eng
open Go.RowKit
variable {P : Program} {T : Tab} {r : Option Nat} {ns : Nat}
def ExecS (P : Program) (r : Option Nat) (ns : Nat) (ops : Array Oper) : Nat → List Oper → St → (Nat → St → Prop) → Prop
  | n, [], s, Q => Q n s
  | n, o :: l, s, Q => guardS ops ns s o = some true ∧ ∃ G, StepI P r ns n s o G ∧ ∀ n' s', G n' s' → ExecS P r ns ops n' l s' Q
theorem execS_list {W0 : Fix} {R0 : Nat → Prop} {B : Nat} (hi : InAct r W0 R0 B) {ops : Array Oper} {Q : Exit → Act → World → Prop} : ∀ (l : List Oper) (n : Nat) {s : St} {E : Env} {a : Act} {w : World} {Q' : Nat → St → Prop}, ExecS P r ns ops n l s Q' →
    Sim W0 R0 ns (· < n) s E a w → (∀ n' s' E' a' w', Sim W0 R0 ns (· < n') s' E' a' w' → Q' n' s' → Q .normal a' w') → wpListIn (fen (rOf W0 r)) 0 P ops Q l a w
  | [], n, s, E, a, w, Q', h, hs, hQ => hQ n s E a w hs h
  | o :: l, n, s, E, a, w, Q', ⟨hg, G, h1, h2⟩, hs, hQ => by
    refine wpListIn_step fun K hK => ?_
    rw [guard_ok hs hg, if_pos rfl]
    exact h1 W0 R0 B E a w hi hs (guardS_dst hg) K Q fun n' s' E' a' w' hG hs' => hK _ _ (execS_list hi l n' (h2 n' s' hG) hs' hQ)
theorem AWi.regionS {id n : Nat} {s : St} {Q : Post} {l : List Oper} (h : ExecS P r ns l.toArray n l s (fun n' s' => Q .normal n' s')) : AWi P r ns (.region id l.toArray false) n s Q :=
  fun W0 _ _ _ _ _ hi hs => wpIn_region_lit (execS_list hi l n h hs fun n' s' E' _ _ h1 h2 => ⟨n', s', E', W0, Ext.refl _, hi, h1, h2⟩)
section
variable {ops : Array Oper} {o : Oper} {l : List Oper} {n : Nat} {s : St} {Q : Nat → St → Prop}
theorem ExecS.plain (hT : TabOk P T) {out : Out} (hg : guardS ops ns s o = some true) (hw : waits o.op = false) (hx : aop T s.mem n (opd ns s) o.op = some out) (h : ExecS P r ns ops (n + 1) l (putS s n o.dst out) Q) : ExecS P r ns ops n (o :: l) s Q :=
  ⟨hg, fun n' s' => n' = n + 1 ∧ s' = putS s n o.dst out, fun W0 R0 B E a w hi hs hd K Q' hK =>
    oper_in (noDefer_spec (aop_noDefer hx) List.mem_cons_self) (step_wp hT hs (nid := n) (by omega) (N := n) (fun _ h => h) hd ((step_plain hw).2 hx) fun E' a' w' hs' => hK _ _ E' a' w' ⟨rfl, rfl⟩ (hs'.weak fun i hi => by omega)), fun n' s' ⟨e1, e2⟩ => by rw [e1, e2]; exact h⟩
theorem ExecS.slice (hT : TabOk P T) {t e : TypeId} {x : Operand} {i ie : TI} {N id j : Nat} (ho : o.op = .slice t x none none none) (hg : guardS ops ns s o = some true) (hi : T t = some i) (hk : i.kind = .array N e) (hie : T e = some ie) (hN : 0 < N) (hx : opd ns s x = some (.ptr id 0 j))
    (h : ExecS P r ns ops n l ⟨setSlot s.slots o.dst (.sl id j N (some N)), s.mem⟩ Q) : ExecS P r ns ops n (o :: l) s Q :=
  ⟨hg, fun n' s' => n' = n ∧ s' = ⟨setSlot s.slots o.dst (.sl id j N (some N)), s.mem⟩, fun W0 R0 B E a w hin hs hd K Q' hK => by
    have hr := hs.opd hx
    have hc : sliceC T i (.ptr id 0 j) none none none = some (.sl id j N (some N)) := by
      have hN' : ¬ (N : Int) = 0 := by omega
      simp [sliceC, hk, hie, hN']
    obtain ⟨z, h1, h2⟩ := sliceC_run (w := w) hT hi Bd.none Bd.none Bd.none hc hr
    refine oper_in (fun c e => by rw [ho] at e; cases e) ?_
    unfold Oper.wp
    have he : (execOp a.eval o).run P w = .ok (.value z) w := by
      simp only [execOp, ho, Sem.run_bind]
      simp [h1]
    rw [he]
    exact hK n _ E _ w ⟨rfl, rfl⟩ (hs.put hd h2), fun n' s' ⟨e1, e2⟩ => by rw [e1, e2]; exact h⟩
theorem ExecS.clear (hT : TabOk P T) {t e ty : TypeId} {x : Operand} {c : Call} {i ie : TI} {N id j cp : Nat} {cells : List SV} (ho : o.op = .call c) (hc1 : c.callee = .builtin .clear) (hc2 : c.args.toList = [x]) (hc3 : c.argTypes.toList = [t]) (hg : guardS ops ns s o = some true) (hi : T t = some i) (hk : i.kind = .slice e) (hie : T e = some ie) (hN : 0 < N) (hx : opd ns s x = some (.sl id j N (some cp))) (hm : s.mem id = some (.box ty cells false)) (hle : j + N * ie.size ≤ cells.length)
    (h : ExecS P r ns ops n l ⟨setSlot s.slots o.dst (.tup []), setMem s.mem id (some (.box ty (splice cells j (zerosC ie (N * ie.size))) false))⟩ Q) : ExecS P r ns ops n (o :: l) s Q :=
  ⟨hg, fun n' s' => n' = n ∧ s' = ⟨setSlot s.slots o.dst (.tup []), setMem s.mem id (some (.box ty (splice cells j (zerosC ie (N * ie.size))) false))⟩, fun W0 R0 B E a w hin hs hd K Q' hK => by
    rw [call_eq hc1 hc2 hc3] at ho
    have hr := hs.opd hx
    have hu := slice_und (hT t i hi) hk
    obtain ⟨inf, z0, i1, i4, i2, i3, hzs, hz⟩ := zeros_reps (E := E) (w := w) hT hie
    obtain ⟨u, hu'⟩ : ∃ u, a.eval x = u := ⟨_, rfl⟩
    rw [hu'] at hr
    cases hr with
    | sl _ _ _ _ q0 cd hdm hcd hq hnd =>
    obtain rfl := (hq (.inl hN)).symm
    have hro : ¬ E.ro (E.home id).blk := fun k => by have := (hs.frz id _ hm).2 k; cases this
    cases hs.mem id _ hm with
    | box _ _ _ cur h1 h2 h3 h4 =>
    have hR := hz (N * ie.size)
    have hlen : (madeCells z0.cells (N * ie.size)).toList.length = N * ie.size := by simp [size_madeCells]
    have hst := run_storeCells_at P (E.home id).blk j ty (madeCells z0.cells (N * ie.size)).toList 0 cur w h1 (by rw [hlen]; omega) hR.ones
    simp only [Nat.add_zero] at hst
    have hzv : (zeroValue e).run P w = .ok z0 w := by simp [zeroValue, typeInfo, i1, i4]
    have hzc : Builtin.zeroCells z0.cells N = madeCells z0.cells (N * ie.size) := by unfold Builtin.zeroCells madeCells; rw [hzs]
    obtain ⟨q, rfl⟩ : ∃ q, N = q + 1 := ⟨N - 1, by omega⟩
    have hrun : (Builtin.clear_ #[t] o.type #[.slice (some ⟨(E.home id).blk, j, none⟩) (q + 1) cd]).run P w = .ok (.tuple #[]) (w.setRow (E.home id).blk (cur.toList.take j ++ (madeCells z0.cells ((q + 1) * ie.size)).toList ++ cur.toList.drop (j + (madeCells z0.cells ((q + 1) * ie.size)).toList.length)).toArray) := by
      simp [Builtin.clear_, run_underlying hu, hzv, hzc]
      simp at hst
      rw [hst]
      simp
    have he : (execOp a.eval o).run P w = .ok (.value (.tuple #[])) (w.setRow (E.home id).blk (cur.toList.take j ++ (madeCells z0.cells ((q + 1) * ie.size)).toList ++ cur.toList.drop (j + (madeCells z0.cells ((q + 1) * ie.size)).toList.length)).toArray) := by
      simp only [execOp, ho, resolve, invoke, builtin, Sem.run_bind, Sem.run_pure, Result.andThen_ok, List.map_toArray, List.map_cons, List.map_nil, hu', hrun]
    have hw : ∀ b, E.ro b → (w.setRow (E.home id).blk (cur.toList.take j ++ (madeCells z0.cells ((q + 1) * ie.size)).toList ++ cur.toList.drop (j + (madeCells z0.cells ((q + 1) * ie.size)).toList.length)).toArray).heap[b]? = w.heap[b]? := fun b hb => setRow_other _ _ _ _ (fun e => hro (e ▸ hb))
    have hC : Reps E w cells cur.toList := ⟨by simpa using h2, h3, fun i c v hc hv => h4 i c v hc (by simpa using hv)⟩
    have hS := (hC.keep (Env.le.refl E) hw).splice (hR.keep (Env.le.refl E) hw) j (by rw [zerosC_len]; exact hle) (cur.toList.take j ++ (madeCells z0.cells ((q + 1) * ie.size)).toList ++ cur.toList.drop (j + (madeCells z0.cells ((q + 1) * ie.size)).toList.length)).toArray (by simp [size_madeCells]; omega) fun k => by
      rw [splice_at cur _ j (by rw [hlen]; omega)]
      by_cases q1 : j ≤ k ∧ k < j + (madeCells z0.cells ((q + 1) * ie.size)).toList.length
      · rw [if_pos q1, if_pos ⟨q1.1, q1.2, by rw [hlen] at q1; simp; omega⟩]
      · rw [if_neg q1, if_neg (fun q' => q1 ⟨q'.1, q'.2.1⟩)]; simp
    have h6 : Sim W0 R0 ns (· < n) ⟨s.slots, setMem s.mem id (some (.box ty (splice cells j (zerosC ie ((q + 1) * ie.size))) false))⟩ E a (w.setRow (E.home id).blk (cur.toList.take j ++ (madeCells z0.cells ((q + 1) * ie.size)).toList ++ cur.toList.drop (j + (madeCells z0.cells ((q + 1) * ie.size)).toList.length)).toArray) :=
      hs.write hm rfl rfl (grown_setRow _ _ _) (.box ty _ _ _ (setRow_heap _ _ _ _ _ _ h1) (by simpa using hS.1) hS.2.1 fun i c v hc hv => hS.2.2 i c v hc (by simpa using hv))
    refine oper_in (fun c e => by rw [ho] at e; cases e) ?_
    unfold Oper.wp
    rw [he]
    exact hK n _ E _ _ ⟨rfl, rfl⟩ (h6.put hd (.tup [] #[] rfl (by simp))), fun n' s' ⟨e1, e2⟩ => by rw [e1, e2]; exact h⟩
end
end Go.Proofs.Ytdkneonokbakjaa.Eng

noncomputable section
namespace Go.Proofs.Ytdkneonokbakjaa.Eng
open Go.RowKit
set_option maxRecDepth 100000
set_option maxHeartbeats 8000000
theorem whS_congr {s : RS} {ps : List Int} {A B : Rgs} (h : ∀ j, j < 12 → A j = B j) : whS s ps A = whS s ps B := by
  have e : ∀ A : Rgs, spS A = [.d (iD (A 0).1), .d (iD (A 0).2), .d (iD (A 1).1), .d (iD (A 1).2), .d (iD (A 2).1), .d (iD (A 2).2), .d (iD (A 3).1), .d (iD (A 3).2), .d (iD (A 4).1), .d (iD (A 4).2), .d (iD (A 5).1), .d (iD (A 5).2), .d (iD (A 6).1), .d (iD (A 6).2), .d (iD (A 7).1), .d (iD (A 7).2), .d (iD (A 8).1), .d (iD (A 8).2), .d (iD (A 9).1), .d (iD (A 9).2), .d (iD (A 10).1), .d (iD (A 10).2), .d (iD (A 11).1), .d (iD (A 11).2)] := fun _ => rfl
  unfold whS
  rw [e A, e B, h 0 (by decide), h 1 (by decide), h 2 (by decide), h 3 (by decide), h 4 (by decide), h 5 (by decide), h 6 (by decide), h 7 (by decide), h 8 (by decide), h 9 (by decide), h 10 (by decide), h 11 (by decide)]
theorem WhAt.congr {s : RS} {ps : List Int} {A B : Rgs} {w : Nat} {m : Mem} (h : WhAt s ps A w m) (hb : ∀ j, j < 12 → B j = A j) : WhAt s ps B w m := by
  unfold WhAt
  rw [whS_congr hb]
  exact h
theorem WhAt.only {s : RS} {ps : List Int} {A : Rgs} {w : Nat} {m : Mem} (h : WhAt s ps A w m) : WhAt s ps A w (only m [w]) := by
  show Eng.only m [w] w = _
  rw [only_at, if_pos List.mem_cons_self]
  exact h
theorem wh_put (s : RS) (ps : List Int) (A : Rgs) {k : Nat} (hk : k < 12) (a b : Int) : List.take (6 + k * 2) (whS s ps A) ++ .d (iD a) :: .d (iD b) :: List.drop (6 + k * 2 + 2) (whS s ps A) = whS s ps fun j => if j = k then (a, b) else A j := by
  have h : ∀ p : Fin 12, List.take (6 + p.1 * 2) (whS s ps A) ++ .d (iD a) :: .d (iD b) :: List.drop (6 + p.1 * 2 + 2) (whS s ps A) = whS s ps fun j => if j = p.1 then (a, b) else A j := by
    intro p
    match p with
    | ⟨0, _⟩ => rfl
    | ⟨1, _⟩ => rfl
    | ⟨2, _⟩ => rfl
    | ⟨3, _⟩ => rfl
    | ⟨4, _⟩ => rfl
    | ⟨5, _⟩ => rfl
    | ⟨6, _⟩ => rfl
    | ⟨7, _⟩ => rfl
    | ⟨8, _⟩ => rfl
    | ⟨9, _⟩ => rfl
    | ⟨10, _⟩ => rfl
    | ⟨11, _⟩ => rfl
  exact h ⟨k, hk⟩
theorem use_w {s : RS} {ps : List Int} {A : Rgs} {w : Nat} {m : Mem} (hm : WhAt s ps A w m) (ok : StoOk s ps) (Y : SV) (hY : FnV Y) (mt : Nat → Bool) (n : Nat) (hw : w < n)
    (hM : ∀ p, p < ps.length → ∀ (n' : Nat) (m' : Mem) (B : Rgs), n ≤ n' → WhAt s ps B w m' → (∀ j, j < n → j ≠ w → m' j = m j) → YCall Try.prog Y [.d (iD p)] n' m' fun y n'' m'' => n' ≤ n'' ∧ y = .d (bD (mt p)) ∧ ∀ j, j < n' → m'' j = m' j) :
    CWp Try.prog 84 [.ptr w 0 0, Y] n m fun y n' m' => n ≤ n' ∧ y = .tup [] ∧ WhAt s ps (allR s ps mt) w m' ∧ ∀ j, j < n → j ≠ w → m' j = m j := by
  obtain ⟨hY1, hY2⟩ := hY
  have n2 := ok.n2
  have hl := whS_len s ps
  have hz : splice (whS s ps A) 6 (zerosC { size := 2, bytes := 16, zero := [.int .i64 0, .int .i64 0], kind := .struct [(0, 2), (1, 2)], eqk := [.i64, .i64] } (12 * 2)) = whS s ps fun _ => (0, 0) := by rfl
  refine cwpK tabOk Try.func84 rfl rfl (show 2 ≤ _ by decide) rfl fun _ => ?_; simp only [Try.ntmps84]
  refine AWi.seqK fun _ => ?_
  refine AWi.regionS ?_
  refine ExecS.plain tabOk (out := { res := .ptr w 0 0 }) rfl rfl (by simp [-getElem?_pos, z0, z1, z2]) ?_
  refine ExecS.plain tabOk (out := { res := .ptr w 0 0 }) rfl rfl (by simp [-getElem?_pos, z0, z1, z2, hm]) ?_
  refine ExecS.plain tabOk (out := { res := .ptr w 0 6 }) rfl rfl (by simp [-getElem?_pos, z0, z1, z2, hm]) ?_
  refine ExecS.slice tabOk (N := 12) (id := w) (j := 6) rfl rfl (TB81) rfl (TB23) (by decide) (by simp [-getElem?_pos, z0, z1, z2]) ?_
  refine ExecS.clear tabOk (ty := 83) (N := 12) (id := w) (j := 6) (cp := 12) (cells := whS s ps A) rfl rfl rfl rfl rfl (TB74) rfl (TB23) (by decide) (by simp [-getElem?_pos, z0, z1, z2]) (by simp [putS, hm]) (by simp) ?_
  rw [show splice _ _ _ = _ from hz]
  simp [putS, ExecS]
  with_reducible refine KI.go ?_
  repeat (first | (with_reducible first | refine AWi.seqK fun _ => ?_ | refine AWi.blockK fun _ => ?_ | refine KI.go ?_) | ((first | refine AWi.region tabOk ?_ | refine AWi.condK fun _ _ => ?_ | refine AWi.draws tabOk rfl (by kernel_rfl) (by kernel_rfl) ?_); simp [-getElem?_pos, z0, z1, z2, hl]) | ((first | refine AWi.ret ?_ | refine AWi.skip ?_ | refine AWi.exit ?_); try simp only [thenP]) | (with_reducible refine BB.go ?_; simp only [blockP, thenP, reduceIte]) | (with_reducible refine And.intro (okLog_c (by simp [footOf, guardSlot, slotsOf, idsRead, looks, idsOf, idsOf1, idsWritten, colF]; kernel_rfl)) ?_))
  refine AWi.loopK (fun (k : Nat) n1 t => n ≤ n1 ∧ k ≤ ps.length ∧ t.slots 0 = .ptr w 0 0 ∧ t.slots 1 = Y ∧ t.slots 13 = .d (iD ps.length) ∧ t.slots 14 = .d (iD k) ∧ WhAt s ps (fun j => if j < k then allR s ps mt j else (0, 0)) w t.mem ∧ ∀ j, j < n → j ≠ w → t.mem j = m j) (fun k => ps.length - k) 0 ?_ ?_
  · refine ⟨by omega, Nat.zero_le _, by simp, by simp, by simp [iD], by simp [iD], ?_, fun j h1 h2 => ?_⟩
    · exact if_pos rfl
    · simp [h2]
  rintro k n1 t ⟨r0, r1, t0, t1, t13, t14, tm, tl⟩ kk
  have w1 : IntKind.i64.wrap ((k : Int) + 1) = (k : Int) + 1 := wrap64_in (by omega)
  by_cases hlt : k < ps.length
  · have hii : (k : Int) < ps.length := by omega
    obtain ⟨tu, htu⟩ : ∃ tu, ps[k]? = some tu := ⟨_, List.getElem?_eq_getElem hlt⟩
    repeat (first | (with_reducible first | refine AWi.seqK fun _ => ?_ | refine AWi.blockK fun _ => ?_ | refine KI.go ?_) | ((first | refine AWi.region tabOk ?_ | refine AWi.condK fun _ _ => ?_); simp [-getElem?_pos, z0, z1, z2, t0, t1, t13, t14, hii]) | ((first | refine AWi.ret ?_ | refine AWi.skip ?_ | refine AWi.exit ?_); try simp only [thenP]) | (with_reducible refine BB.go ?_; simp only [blockP, thenP, reduceIte]))
    refine ExecI.callY (Y := Y) (xs := [.d (iD k)]) (hM k hlt _ _ _ (by omega) tm tl) (by simp [-getElem?_pos, z0, z1, z2]) (by simp [calleeV, evList]) ?_
    rintro y n2 m2 ⟨q1, rfl, q3⟩
    have tm2 : WhAt s ps (fun j => if j < k then allR s ps mt j else (0, 0)) w m2 := (q3 w (by omega)).trans tm
    have hall : allR s ps mt k = if mt k then spR s tu else (0, 0) := by rw [allR, htu]
    cases hmt : mt k with
    | false =>
      rw [hmt] at hall
      simp [-getElem?_pos, z0, z1, z2]
      repeat (first | (with_reducible first | refine AWi.seqK fun _ => ?_ | refine AWi.blockK fun _ => ?_ | refine KI.go ?_) | ((first | refine AWi.region tabOk ?_ | refine AWi.condK fun _ _ => ?_); simp [-getElem?_pos, z0, z1, z2, t14, w1]) | ((first | refine AWi.ret ?_ | refine AWi.skip ?_ | refine AWi.exit ?_); try simp only [thenP]) | (with_reducible refine BB.go ?_; simp only [blockP, thenP, reduceIte]))
      refine LI.go (k + 1) ⟨by omega, hlt, by simp [t0], by simp [t1], by simp [t13], by simp [iD], tm2.congr fun j _ => ?_, fun j h1 h2 => (q3 j (by omega)).trans (tl j h1 h2)⟩ (by omega)
      by_cases h1 : j < k
      · rw [if_pos h1, if_pos (by omega)]
      · by_cases h2 : j = k
        · subst h2; rw [if_pos (by omega), if_neg h1, hall]; rfl
        · rw [if_neg h1, if_neg (by omega)]
    | true =>
      rw [hmt, if_pos rfl] at hall
      simp [-getElem?_pos, z0, z1, z2]
      repeat (first | (with_reducible first | refine AWi.seqK fun _ => ?_ | refine AWi.blockK fun _ => ?_ | refine KI.go ?_) | ((first | refine AWi.region tabOk ?_ | refine AWi.condK fun _ _ => ?_); simp [-getElem?_pos, z0, z1, z2, t0, t14, tm2]) | ((first | refine AWi.ret ?_ | refine AWi.skip ?_ | refine AWi.exit ?_); try simp only [thenP]) | (with_reducible refine BB.go ?_; simp only [blockP, thenP, reduceIte]))
      have hk12 : k < 12 := by omega
      have hk12i : (k : Int) < 12 := by omega
      have hput := wh_put s ps (fun j => if j < k then allR s ps mt j else (0, 0)) hk12 (spR s tu).1 (spR s tu).2
      have hwn2 : w < n2 := by omega
      have hle : 6 + k * 2 + 2 ≤ 30 := by omega
      refine AWi.drawsT tabOk mixedR 8 (by kernel_rfl) (by kernel_rfl) ?_
      simp only [List.take_succ_cons, List.take_zero, List.drop_succ_cons, List.drop_zero]
      repeat (with_reducible refine ExecV.auto tabOk ?_; simp [-getElem?_pos, z0, z1, z2, kindV, isPure, t0, tm2, hwn2]; try (refine And.intro (OkV_old (by simp; try omega) (by omega) (by simp [AllAcc])) ?_))
      refine ExecV.ro (x := .agg [.d (iD (spR s tu).1), .d (iD (spR s tu).2)]) (d := rngD (spR s tu)) (svs := [.ptr w 0 0, .d (iD k)]) [w] (RCall.of3 (n0 := w + 1) fun nn hnn => span_w (A := fun j => if j < k then allR s ps mt j else (0, 0)) tm2.only ok.g htu (ok.turn htu) nn (by omega)) rfl rfl (by simp [calleeS, evList]) (OkV_old (by simp; try omega) (by omega) (by simp [AllAcc])) ?_
      repeat (with_reducible refine ExecV.auto tabOk ?_; simp [-getElem?_pos, z0, z1, z2, kindV, isPure, t0, tm2, hwn2, hk12, hk12i, hl, hle]; try (refine And.intro (OkV_old (by simp; try omega) (by omega) (by simp [AllAcc])) ?_))
      unfold ExecV
      simp [-getElem?_pos, z0, z1, z2, tm2, hle, hput]
      repeat (first | (with_reducible first | refine AWi.seqK fun _ => ?_ | refine AWi.blockK fun _ => ?_ | refine KI.go ?_) | ((first | refine AWi.region tabOk ?_ | refine AWi.condK fun _ _ => ?_); simp [-getElem?_pos, z0, z1, z2, t14, w1]) | ((first | refine AWi.ret ?_ | refine AWi.skip ?_ | refine AWi.exit ?_); try simp only [thenP]) | (with_reducible refine BB.go ?_; simp only [blockP, thenP, reduceIte]))
      refine LI.go (k + 1) ⟨by omega, hlt, by simp [t0], by simp [t1], by simp [t13], by simp [iD], WhAt.congr (A := fun j => if j = k then ((spR s tu).1, (spR s tu).2) else if j < k then allR s ps mt j else (0, 0)) (if_pos rfl) fun j _ => ?_, fun j h1 h2 => (if_neg h2).trans ((q3 j (by omega)).trans (tl j h1 h2))⟩ (by omega)
      by_cases h1 : j < k
      · rw [if_pos (by omega), if_neg (by omega), if_pos h1]
      · by_cases h2 : j = k
        · subst h2; rw [if_pos (by omega), if_pos rfl, hall]
        · rw [if_neg (by omega), if_neg h2, if_neg h1]
  · obtain rfl : k = ps.length := by omega
    repeat (first | (with_reducible first | refine AWi.seqK fun _ => ?_ | refine AWi.blockK fun _ => ?_ | refine KI.go ?_) | ((first | refine AWi.region tabOk ?_ | refine AWi.condK fun _ _ => ?_); simp [-getElem?_pos, z0, z1, z2, t13, t14]) | ((first | refine AWi.ret ?_ | refine AWi.skip ?_ | refine AWi.exit ?_); try simp only [thenP]) | (with_reducible refine BB.go ?_; simp only [blockP, thenP, reduceIte]))
    refine RI.normal rfl ⟨by omega, rfl, WhAt.congr (m := t.mem) tm fun j _ => ?_, tl⟩
    by_cases h1 : j < ps.length
    · rw [if_pos h1]
    · rw [if_neg h1, allR, List.getElem?_eq_none (by omega)]
theorem newWheel_w {s : RS} {ps : List Int} (ok : StoOk s ps) (n : Nat) (m : Mem) :
    CWp Try.prog 74 [.agg (sto5 s), .d (intL ps)] n m fun y n' m' => n ≤ n' ∧ (∃ w, n ≤ w ∧ w < n' ∧ y = .ptr w 0 0 ∧ WhAt s ps (allR s ps fun _ => true) w m') ∧ ∀ j, j < n → m' j = m j := by
  refine cwpK tabOk Try.func74 rfl rfl (show 2 ≤ _ by decide) rfl fun _ => ?_; simp only [Try.ntmps74]
  repeat (first | (with_reducible first | refine AWi.seqK fun _ => ?_ | refine AWi.blockK fun _ => ?_ | refine KI.go ?_) | ((first | refine AWi.region tabOk ?_ | refine AWi.condK fun _ _ => ?_); simp [-getElem?_pos, z0, z1, z2, z0]) | ((first | refine AWi.ret ?_ | refine AWi.skip ?_ | refine AWi.exit ?_); try simp only [thenP]) | (with_reducible refine BB.go ?_; simp only [blockP, thenP, reduceIte]))
  refine ExecI.callC (use_w (s := s) (ps := ps) (A := fun _ => (0, 0)) (w := n + 1 + 1 + 1 + 1 + 1) (if_pos rfl) ok (.fn 50 [.ptr (n + 1 + 1 + 1 + 1 + 1) 0 0] []) ⟨rfl, rfl⟩ (fun _ => true) _ (by omega) fun p hp n' m' B h1 h2 _ => YCall.fn ((isPulley_w h2 p n').mono fun y n2 m2 ⟨q1, _, e1, e2⟩ => ⟨q1, by rw [e1, decide_eq_true (by omega)], fun _ _ => by rw [e2]⟩)) rfl (by simp [calleeS, evList]) ?_
  rintro y n2 m2 ⟨q1, rfl, q3, q4⟩
  simp
  repeat (first | (with_reducible first | refine AWi.seqK fun _ => ?_ | refine AWi.blockK fun _ => ?_ | refine KI.go ?_) | ((first | refine AWi.region tabOk ?_ | refine AWi.condK fun _ _ => ?_); simp [-getElem?_pos, z0, z1, z2, z0]) | ((first | refine AWi.ret ?_ | refine AWi.skip ?_ | refine AWi.exit ?_); try simp only [thenP]) | (with_reducible refine BB.go ?_; simp only [blockP, thenP, reduceIte]))
  refine RI.ret rfl ⟨by omega, ⟨_, by omega, by omega, rfl, q3⟩, fun j hj => (q4 j (by omega) (by omega)).trans (by (try dsimp only); repeat (first | rw [setMem_lt (by omega)] | rw [putN_lt (by omega)]))⟩
def whP (s : RS) (ps : List Int) (n n' : Nat) (m m' : Mem) (y : SV) : Prop := if stoE s ps = 0 then ∃ w, n ≤ w ∧ w < n' ∧ y = .tup [.ptr w 0 0, .d (iD 0)] ∧ WhAt s ps (allR s ps fun _ => true) w m' else y = .tup [.d (.val (.pointer none)), .d (iD (stoE s ps))]
theorem check_w (s : RS) (ps : List Int) (hl : ps.length ≤ 1000000) (n : Nat) (m : Mem) :
    CWp Try.prog 49 [.agg (sto5 s), .d (intL ps)] n m fun y n' m' => n ≤ n' ∧ whP s ps n n' m m' y ∧ ∀ j, j < n → m' j = m j := by
  have cs := checkStone_c s ps hl
  by_cases h0 : stoE s ps = 0
  · rw [h0] at cs
    refine cwpK tabOk Try.func49 rfl rfl (show 2 ≤ _ by decide) rfl fun _ => ?_; simp only [Try.ntmps49]
    repeat (first | (with_reducible first | refine AWi.seqK fun _ => ?_ | refine AWi.blockK fun _ => ?_ | refine KI.go ?_) | ((first | refine AWi.region tabOk ?_ | refine AWi.condK fun _ _ => ?_); simp [-getElem?_pos, z0, z1, z2, z0]) | ((first | refine AWi.ret ?_ | refine AWi.skip ?_ | refine AWi.exit ?_); try simp only [thenP]) | (with_reducible refine BB.go ?_; simp only [blockP, thenP, reduceIte]))
    refine ExecI.call [] cs ?_ rfl ?_ ?_; (focus simp [-getElem?_pos, ]); (focus simp [-getElem?_pos, z0, z1, z2, ]); simp [-getElem?_pos, z0, z1, z2, ]
    repeat (first | (with_reducible first | refine AWi.seqK fun _ => ?_ | refine AWi.blockK fun _ => ?_ | refine KI.go ?_) | ((first | refine AWi.region tabOk ?_ | refine AWi.condK fun _ _ => ?_); simp [-getElem?_pos, z0, z1, z2, z0]) | ((first | refine AWi.ret ?_ | refine AWi.skip ?_ | refine AWi.exit ?_); try simp only [thenP]) | (with_reducible refine BB.go ?_; simp only [blockP, thenP, reduceIte]))
    refine ExecI.callC (newWheel_w (stoE_ok.1 h0) _ _) rfl (by simp [calleeS, evList]) ?_
    rintro y n2 m2 ⟨q1, ⟨w, h1, h2, rfl, h3⟩, q4⟩
    simp
    repeat (first | (with_reducible first | refine AWi.seqK fun _ => ?_ | refine AWi.blockK fun _ => ?_ | refine KI.go ?_) | ((first | refine AWi.region tabOk ?_ | refine AWi.condK fun _ _ => ?_); simp [-getElem?_pos, z0, z1, z2, z0]) | ((first | refine AWi.ret ?_ | refine AWi.skip ?_ | refine AWi.exit ?_); try simp only [thenP]) | (with_reducible refine BB.go ?_; simp only [blockP, thenP, reduceIte]))
    refine RI.ret rfl ⟨by omega, ?_, fun j hj => (q4 j (by omega)).trans (by (try dsimp only); repeat (first | rw [setMem_lt (by omega)] | rw [putN_lt (by omega)]))⟩
    rw [whP, if_pos h0]
    exact ⟨w, by omega, by omega, rfl, h3⟩
  · refine cwpK tabOk Try.func49 rfl rfl (show 2 ≤ _ by decide) rfl fun _ => ?_; simp only [Try.ntmps49]
    repeat (first | (with_reducible first | refine AWi.seqK fun _ => ?_ | refine AWi.blockK fun _ => ?_ | refine KI.go ?_) | ((first | refine AWi.region tabOk ?_ | refine AWi.condK fun _ _ => ?_); simp [-getElem?_pos, z0, z1, z2, z0]) | ((first | refine AWi.ret ?_ | refine AWi.skip ?_ | refine AWi.exit ?_); try simp only [thenP]) | (with_reducible refine BB.go ?_; simp only [blockP, thenP, reduceIte]))
    refine ExecI.call [] cs ?_ rfl ?_ ?_; (focus simp [-getElem?_pos, ]); (focus simp [-getElem?_pos, z0, z1, z2, ]); simp [-getElem?_pos, z0, z1, z2, ]
    repeat (first | (with_reducible first | refine AWi.seqK fun _ => ?_ | refine AWi.blockK fun _ => ?_ | refine KI.go ?_) | ((first | refine AWi.region tabOk ?_ | refine AWi.condK fun _ _ => ?_); simp [-getElem?_pos, z0, z1, z2, h0]) | ((first | refine AWi.ret ?_ | refine AWi.skip ?_ | refine AWi.exit ?_); try simp only [thenP]) | (with_reducible refine BB.go ?_; simp only [blockP, thenP, reduceIte]))
    refine RI.ret rfl ⟨by omega, ?_, fun j hj => by (try dsimp only); repeat (first | rw [setMem_lt (by omega)] | rw [putN_lt (by omega)])⟩
    rw [whP, if_neg h0]
    rfl
end Go.Proofs.Ytdkneonokbakjaa.Eng

noncomputable section
namespace Go.Proofs.Ytdkneonokbakjaa.Eng
open Go.RowKit
set_option maxRecDepth 100000
set_option maxHeartbeats 8000000
section
variable {P : Program} {r : Option Nat} {ops : Array Oper} {ns n : Nat} {o : Oper} {l : List Oper} {s : St} {Q : Nat → St → Prop}
end
theorem allR_in {s : RS} {ps : List Int} (ok : StoOk s ps) (j : Nat) : -1000000000 ≤ (allR s ps (fun _ => true) j).1 ∧ (allR s ps (fun _ => true) j).1 ≤ 2000000000 ∧ -1000000000 ≤ (allR s ps (fun _ => true) j).2 ∧ (allR s ps (fun _ => true) j).2 ≤ 2000000000 := by
  have hg := ok.g
  have := hg.s1; have := hg.s2; have := hg.s3; have := hg.o1; have := hg.o2; have := hg.l1; have := hg.l2; have := hg.l3
  unfold allR
  cases hj : ps[j]? with
  | none => simp
  | some t =>
    obtain ⟨t1, t2⟩ := ok.turn hj
    simp only [if_true, spR]
    split
    · simp
    · have a1 : 0 ≤ (s.lo + t - 1) / t := Int.ediv_nonneg (by omega) (by omega)
      have a2 : (s.lo + t - 1) / t ≤ 1000010000 := Int.le_trans (Int.ediv_le_self _ (by omega)) (by omega)
      have b1 : 0 ≤ s.hi / t := Int.ediv_nonneg (by omega) (by omega)
      have b2 : s.hi / t ≤ 1000000000 := Int.le_trans (Int.ediv_le_self _ (by omega)) (by omega)
      simp only [betR]
      omega
end Go.Proofs.Ytdkneonokbakjaa.Eng

namespace Go.Proofs.Ytdkneonokbakjaa.Eng
open Go.RowKit
def leastStep (cost : Int → Int) (st : Int × Int × Bool) (b : Int) : Int × Int × Bool := if st.2.2 = false ∨ cost b < st.2.1 then (b, cost b, true) else st
def leastN (cost : Int → Int) (bs : List Int) : Int × Int × Bool := bs.foldl (leastStep cost) (0, 0, false)
theorem leastN_succ (cost : Int → Int) {bs : List Int} {i : Nat} {b : Int} (h : bs[i]? = some b) : leastN cost (bs.take (i + 1)) = leastStep cost (leastN cost (bs.take i)) b := by
  obtain ⟨hi, rfl⟩ := List.getElem?_eq_some_iff.1 h
  unfold leastN
  rw [List.take_succ_eq_append_getElem hi, List.foldl_append]
  rfl
def oneI (b : Int) : List SV := [.d (iD b)]
set_option maxRecDepth 100000 in
set_option maxHeartbeats 4000000 in
theorem leastBy_w {f : FuncId} {us vs : List SV} {args : SV → List SV} {bs : List Int} {K : Mem → Prop} (hit : Iterates Try.prog f args (bs.map oneI) K) (ha : ∀ Y, args Y = us ++ [Y] ++ vs) (B : SV) (hB : FnV B) (cost : Int → Int) (n : Nat) (m : Mem) (hK : K m) (hKb : Below' n K)
    (hby : ∀ b ∈ bs, ∀ n' m', n ≤ n' → (∀ j, j < n → m' j = m j) → YCall Try.prog B [.d (iD b)] n' m' fun y n'' m'' => n' ≤ n'' ∧ (∀ j, j < n' → m'' j = m' j) ∧ y = .d (iD (cost b))) :
    CWp Try.prog 80 [.fn f us vs, B] n m fun y n' m' => n ≤ n' ∧ (∀ j, j < n → m' j = m j) ∧ y = .tup [.d (iD (leastN cost bs).1), .d (bD (leastN cost bs).2.2)] := by
  obtain ⟨hB1, hB2⟩ := hB
  refine cwpK tabOk Try.func80 rfl rfl (show 2 ≤ _ by decide) rfl fun _ => ?_; simp only [Try.ntmps80]
  refine AWi.seqK fun _ => ?_
  refine AWi.region tabOk ?_
  simp [-getElem?_pos, z0, z1, z2, -SV.fit, -SV.cells, hB1, hB2]
  repeat (first | (with_reducible first | refine AWi.seqK fun _ => ?_ | refine AWi.blockK fun _ => ?_ | refine KI.go ?_) | ((first | refine AWi.region tabOk ?_ | refine AWi.condK fun _ _ => ?_ | refine AWi.draws tabOk rfl (by kernel_rfl) (by kernel_rfl) ?_); simp [-getElem?_pos, z0, z1, z2, z0]) | ((first | refine AWi.ret ?_ | refine AWi.skip ?_ | refine AWi.exit ?_); try simp only [thenP]) | (with_reducible refine BB.go ?_; simp only [blockP, thenP, reduceIte]) | (with_reducible refine And.intro (okLog_c (by simp [footOf, guardSlot, slotsOf, idsRead, looks, idsOf, idsOf1, idsWritten, colF]; kernel_rfl)) ?_))
  refine AWi.iterK hit rfl ha (fun _ h => by cases h) rfl (by simp [oneI])
    (fun i mm => (∀ j, j < n → mm j = m j) ∧ mm n = some (.box 105 [B] false) ∧ mm (n + 1 + 1 + 1) = some (.box 3 [.d (iD (leastN cost (bs.take i)).1)] false) ∧ mm (n + 1 + 1 + 1 + 1) = some (.box 2 [.d (iD (leastN cost (bs.take i)).2.1)] false) ∧ mm (n + 1 + 1 + 1 + 1 + 1) = some (.box 4 [.d (bD (leastN cost (bs.take i)).2.2)] false))
    (fun _ _ => False) ?_ ?_ ?_ ?_ ?_ ?_ ?_
  · rintro i mm mm' h ⟨h1, h2, h3, h4, h5⟩
    exact ⟨fun j hj => (h j (by omega)).trans (h1 j hj), (h _ (by omega)).trans h2, (h _ (by omega)).trans h3, (h _ (by omega)).trans h4, (h _ (by omega)).trans h5⟩
  · exact fun _ _ _ _ h => h
  · exact fun i mm h => hKb _ _ h.1 hK
  · refine ⟨fun j hj => ?_, ?_, ?_, ?_, ?_⟩
    · simp [show ¬ j = n + 1 + 1 + 1 by omega, show ¬ j = n by omega, show ¬ j = n + 1 + 1 + 1 + 1 by omega, show ¬ j = n + 1 + 1 + 1 + 1 + 1 by omega]
    · simp [show ¬ n = n + 1 + 1 + 1 + 1 + 1 by omega, show ¬ n = n + 1 + 1 + 1 + 1 by omega, show ¬ n = n + 1 + 1 + 1 by omega]
    · simp [leastN, iD]
    · simp [leastN, iD]
    · simp [leastN, bD]
  · rintro i n2 m2 z hz hn2 ⟨h1, h2, h3, h4, h5⟩ kk
    obtain ⟨b, hb, rfl⟩ : ∃ b, bs[i]? = some b ∧ oneI b = z := by simpa using hz
    have hs := leastN_succ cost hb
    generalize leastN cost (bs.take i) = st at h3 h4 h5 hs
    obtain ⟨lb, lc, lf⟩ := st
    repeat (first | (with_reducible first | refine AWi.seqK fun _ => ?_ | refine AWi.blockK fun _ => ?_ | refine KI.go ?_) | ((first | refine AWi.region tabOk ?_ | refine AWi.condK fun _ _ => ?_ | refine AWi.draws tabOk rfl (by kernel_rfl) (by kernel_rfl) ?_); simp [-getElem?_pos, z0, z1, z2, putAll, oneI]) | ((first | refine AWi.ret ?_ | refine AWi.skip ?_ | refine AWi.exit ?_); try simp only [thenP]) | (with_reducible refine BB.go ?_; simp only [blockP, thenP, reduceIte]) | (with_reducible refine And.intro (okLog_c (by simp [footOf, guardSlot, slotsOf, idsRead, looks, idsOf, idsOf1, idsWritten, colF]; kernel_rfl)) ?_))
    refine RB.go (by omega) (fun _ _ => rfl) fun rc hrc q => ?_
    have e0 : ¬ n = n + 1 + 1 + 1 + 1 + 1 + 1 + 1 + 1 := by omega
    repeat (first | (with_reducible first | refine AWi.seqK fun _ => ?_ | refine AWi.blockK fun _ => ?_ | refine KI.go ?_) | ((first | refine AWi.region tabOk ?_ | refine AWi.condK fun _ _ => ?_ | refine AWi.draws tabOk rfl (by kernel_rfl) (by kernel_rfl) ?_); simp [-getElem?_pos, z0, z1, z2, h2, e0]) | ((first | refine AWi.ret ?_ | refine AWi.skip ?_ | refine AWi.exit ?_); try simp only [thenP]) | (with_reducible refine BB.go ?_; simp only [blockP, thenP, reduceIte]) | (with_reducible refine And.intro (okLog_c (by simp [footOf, guardSlot, slotsOf, idsRead, looks, idsOf, idsOf1, idsWritten, colF]; kernel_rfl)) ?_))
    refine ExecI.callY (Y := B) (xs := [.d (iD b)]) (hby b (List.mem_of_getElem? hb) _ _ (by omega) (fun j hj => ?_)) rfl (by simp [calleeV, evList]) ?_
    · show (if j = n + 1 + 1 + 1 + 1 + 1 + 1 + 1 + 1 then rc else m2 j) = m j
      rw [if_neg (by omega)]
      exact h1 j hj
    rintro y n3 m3 ⟨k1, k2, rfl⟩
    have k3 : ∀ j, j < n2 → ¬ j = n + 1 + 1 + 1 + 1 + 1 + 1 + 1 + 1 → m3 j = m2 j := fun j j1 j2 => (k2 j (by omega)).trans (if_neg j2)
    have f3 := (k3 _ (by omega) (by omega)).trans h3
    have f4 := (k3 _ (by omega) (by omega)).trans h4
    have f5 := (k3 _ (by omega) (by omega)).trans h5
    have f0 := (k3 _ (by omega) (by omega)).trans h2
    have f1 : ∀ j, j < n → m3 j = m j := fun j hj => (k3 j (by omega) (by omega)).trans (h1 j hj)
    have ke : ∀ j, n + 1 + 1 + 1 + 1 + 1 + 1 + 1 + 1 ≤ j → j < n2 + 1 → m3 j = setMem m2 (n + 1 + 1 + 1 + 1 + 1 + 1 + 1 + 1) rc j := fun j _ j2 => k2 j (by omega)
    simp only [] at f3 f4 f5
    have u1 : ¬ n + 1 = n := by omega
    have u2 : ¬ n + 1 + 1 = n := by omega
    simp [-getElem?_pos, z0, z1, z2]
    cases lf
    · repeat (first | (with_reducible first | refine AWi.seqK fun _ => ?_ | refine AWi.blockK fun _ => ?_ | refine KI.go ?_) | ((first | refine AWi.region tabOk ?_ | refine AWi.condK fun _ _ => ?_ | refine AWi.draws tabOk rfl (by kernel_rfl) (by kernel_rfl) ?_); simp [-getElem?_pos, z0, z1, z2, f3, f4, f5, u1, u2]) | ((first | refine AWi.ret ?_ | refine AWi.skip ?_ | refine AWi.exit ?_); try simp only [thenP]) | (with_reducible refine BB.go ?_; simp only [blockP, thenP, reduceIte]) | (with_reducible refine And.intro (okLog_c (by simp [footOf, guardSlot, slotsOf, idsRead, looks, idsOf, idsOf1, idsWritten, colF]; kernel_rfl)) ?_))
      refine RE.normal (by omega) ?_ ?_
      · intro j j1 j2
        simp [show ¬ j = n + 1 + 1 + 1 by omega, show ¬ j = n + 1 + 1 + 1 + 1 by omega, show ¬ j = n + 1 + 1 + 1 + 1 + 1 by omega]
        exact ke j j1 j2
      · rw [hs, show leastStep cost (lb, lc, false) b = (b, cost b, true) by simp [leastStep]]
        refine ⟨fun j hj => ?_, ?_, ?_, ?_, ?_⟩
        · simp [show ¬ j = n + 1 + 1 + 1 by omega, show ¬ j = n + 1 + 1 + 1 + 1 by omega, show ¬ j = n + 1 + 1 + 1 + 1 + 1 by omega]
          exact f1 j hj
        · simp [show ¬ n = n + 1 + 1 + 1 by omega, show ¬ n = n + 1 + 1 + 1 + 1 by omega, show ¬ n = n + 1 + 1 + 1 + 1 + 1 by omega, f0]
        · simp [u1, u2]
        · simp [u1, u2]
        · simp [u1, u2, bD]
    · by_cases hlt : cost b < lc
      · repeat (first | (with_reducible first | refine AWi.seqK fun _ => ?_ | refine AWi.blockK fun _ => ?_ | refine KI.go ?_) | ((first | refine AWi.region tabOk ?_ | refine AWi.condK fun _ _ => ?_ | refine AWi.draws tabOk rfl (by kernel_rfl) (by kernel_rfl) ?_); simp [-getElem?_pos, z0, z1, z2, f3, f4, f5, hlt, u1, u2]) | ((first | refine AWi.ret ?_ | refine AWi.skip ?_ | refine AWi.exit ?_); try simp only [thenP]) | (with_reducible refine BB.go ?_; simp only [blockP, thenP, reduceIte]) | (with_reducible refine And.intro (okLog_c (by simp [footOf, guardSlot, slotsOf, idsRead, looks, idsOf, idsOf1, idsWritten, colF]; kernel_rfl)) ?_))
        refine RE.normal (by omega) ?_ ?_
        · intro j j1 j2
          simp [show ¬ j = n + 1 + 1 + 1 by omega, show ¬ j = n + 1 + 1 + 1 + 1 by omega, show ¬ j = n + 1 + 1 + 1 + 1 + 1 by omega]
          exact ke j j1 j2
        · rw [hs, show leastStep cost (lb, lc, true) b = (b, cost b, true) by simp [leastStep, hlt]]
          refine ⟨fun j hj => ?_, ?_, ?_, ?_, ?_⟩
          · simp [show ¬ j = n + 1 + 1 + 1 by omega, show ¬ j = n + 1 + 1 + 1 + 1 by omega, show ¬ j = n + 1 + 1 + 1 + 1 + 1 by omega]
            exact f1 j hj
          · simp [show ¬ n = n + 1 + 1 + 1 by omega, show ¬ n = n + 1 + 1 + 1 + 1 by omega, show ¬ n = n + 1 + 1 + 1 + 1 + 1 by omega, f0]
          · simp [u1, u2]
          · simp [u1, u2]
          · simp [u1, u2, bD]
      · repeat (first | (with_reducible first | refine AWi.seqK fun _ => ?_ | refine AWi.blockK fun _ => ?_ | refine KI.go ?_) | ((first | refine AWi.region tabOk ?_ | refine AWi.condK fun _ _ => ?_ | refine AWi.draws tabOk rfl (by kernel_rfl) (by kernel_rfl) ?_); simp [-getElem?_pos, z0, z1, z2, f3, f4, f5, hlt, u1, u2]) | ((first | refine AWi.ret ?_ | refine AWi.skip ?_ | refine AWi.exit ?_); try simp only [thenP]) | (with_reducible refine BB.go ?_; simp only [blockP, thenP, reduceIte]) | (with_reducible refine And.intro (okLog_c (by simp [footOf, guardSlot, slotsOf, idsRead, looks, idsOf, idsOf1, idsWritten, colF]; kernel_rfl)) ?_))
        refine RE.normal (by omega) ke ?_
        rw [hs, show leastStep cost (lb, lc, true) b = (lb, lc, true) by simp [leastStep, hlt]]
        exact ⟨f1, f0, f3, f4, f5⟩
  · rintro n' m' hn' ⟨h1, h2, h3, h4, h5⟩
    simp only [thenP]
    rw [List.length_map, List.take_length] at h3 h4 h5
    repeat (first | (with_reducible first | refine AWi.seqK fun _ => ?_ | refine AWi.blockK fun _ => ?_ | refine KI.go ?_) | ((first | refine AWi.region tabOk ?_ | refine AWi.condK fun _ _ => ?_ | refine AWi.draws tabOk rfl (by kernel_rfl) (by kernel_rfl) ?_); simp [-getElem?_pos, z0, z1, z2, h3, h5]) | ((first | refine AWi.ret ?_ | refine AWi.skip ?_ | refine AWi.exit ?_); try simp only [thenP]) | (with_reducible refine BB.go ?_; simp only [blockP, thenP, reduceIte]) | (with_reducible refine And.intro (okLog_c (by simp [footOf, guardSlot, slotsOf, idsRead, looks, idsOf, idsOf1, idsWritten, colF]; kernel_rfl)) ?_))
    exact RI.ret rfl ⟨by omega, h1, rfl⟩
  · exact fun _ _ _ _ h => h.elim
end Go.Proofs.Ytdkneonokbakjaa.Eng

noncomputable section
namespace Go.Proofs.Ytdkneonokbakjaa.Eng
open Go.RowKit
variable {P : Program} {T : Tab} {r : Option Nat} {ns n : Nat} {s : St}
theorem map_keys {E : Env} {w : World} {i : MapI} {es : List (List Int × SV × Nat)} {ents : Array MapEntry} (h2 : ents.size = es.length) (h4 : ∀ (j : Nat) q e, es[j]? = some q → ents[j]? = some e → e.key = keyVal i.agg i.kk q.1 ∧ e.born = q.2.2 ∧ Rep E w q.2.1 e.val) : ents.toList.map (·.key) = (es.map (·.1)).map (keyVal i.agg i.kk) := by
  apply List.ext_getElem?
  intro j
  simp only [List.getElem?_map, Array.getElem?_toList]
  by_cases hj : j < es.length
  · rw [List.getElem?_eq_getElem hj, Array.getElem?_eq_getElem (show j < ents.size by omega)]
    simp only [Option.map_some]
    rw [(h4 j _ _ (List.getElem?_eq_getElem hj) (Array.getElem?_eq_getElem (show j < ents.size by omega))).1]
  · rw [List.getElem?_eq_none (by omega), Array.getElem?_eq_none (by omega)]
    rfl
def lookV (i : MapI) (es : List (List Int × SV × Nat)) (l : List Int) (ok : Bool) : SV := match (findK l (es.map (·.1)) 0).bind fun j => es[j]? with
  | some q => if ok then .tup [q.2.1, .d (.val (.bool true))] else q.2.1
  | none => if ok then .tup [i.zero, .d (.val (.bool false))] else i.zero
theorem stepI_lookup {M : MTab} (hM : MTabOk P M) {o : Oper} {x y : Operand} {t : TypeId} {ok : Bool} (ho : o.op = .lookup t x y ok) {i : MapI} (hi : M t = some i) {id clock : Nat} {es : List (List Int × SV × Nat)} {kv : SV} {l : List Int}
    (hx : opd ns s x = some (.mp id)) (hm : s.mem id = some (mapB i es clock)) (hy : opd ns s y = some kv) (hl : keyOf i kv = some l) (hlen : es.all (fun q => q.1.length == i.kk.length) = true) :
    StepI P r ns n s o fun n' s' => n' = n ∧ s' = { slots := setSlot s.slots o.dst (lookV i es l ok), mem := s.mem } := by
  intro W0 R0 B E a w hin h hd K Q hK
  refine oper_in (fun c e => by rw [ho] at e; cases e) ?_
  have H := hM t i hi
  obtain ⟨u, hu⟩ : ∃ u, a.eval x = u := ⟨_, rfl⟩
  have hr := h.opd hx
  rw [hu] at hr
  obtain ⟨e1, e2⟩ := keyOf_spec H.one hl (h.opd hy)
  cases hr with
  | mp _ hdm =>
    have Hb := h.mem id _ hm
    cases Hb with
    | map _ _ _ ents h1 h2 h3 =>
      rw [List.length_map] at h2
      have h4 : ∀ (j : Nat) q e, es[j]? = some q → ents[j]? = some e → e.key = keyVal i.agg i.kk q.1 ∧ e.born = q.2.2 ∧ Rep E w q.2.1 e.val := fun j q e hq he => h3 j (keyVal i.agg i.kk q.1, q.2) e (by rw [List.getElem?_map, hq]; rfl) he
      have hks := map_keys h2 h4
      have hf := H.find w l ents.toList (es.map (·.1)) e2 (fun q hq => by
        obtain ⟨p, hp, rfl⟩ := List.mem_map.1 hq
        simpa using List.all_eq_true.1 hlen p hp) hks
      obtain ⟨z, hz1, hz2⟩ := H.zero
      obtain ⟨v, hv1, hv2⟩ : ∃ v, (Instr.lookup t (.map (some (E.home id).blk)) (a.eval y) ok).run P w = .ok v w ∧ Rep E w (lookV i es l ok) v := by
        unfold lookV
        rw [e1]
        cases hq : (findK l (es.map (·.1)) 0).bind fun j => es[j]? with
        | some q =>
          have hq0 := hq
          rw [Option.bind_eq_some_iff] at hq
          obtain ⟨j, hj, hq⟩ := hq
          have hjl : j < ents.size := by have := (List.getElem?_eq_some_iff.1 hq).1; omega
          have he := h4 j q _ hq (Array.getElem?_eq_getElem hjl)
          rw [hj] at hf
          simp only [Option.bind_some, Array.getElem?_toList, Array.getElem?_eq_getElem hjl, Option.map_some] at hf
          refine ⟨if ok then .tuple #[ents[j].val, .bool true] else ents[j].val, ?_, ?_⟩
          · simp [Instr.lookup, run_underlying H.und, MapKept.run_getObj_map h1, H.check _ w l e2, hf]
          · cases ok with
            | true => exact tup2 he.2.2 (rep_val rfl)
            | false => exact he.2.2
        | none =>
          have hf2 : (Instr.findKey i.key (keyVal i.agg i.kk l) ents.toList).run P w = .ok none w := by
            rw [hf]
            congr 1
            cases hj : findK l (es.map (·.1)) 0 with
            | none => rfl
            | some j =>
              rw [hj] at hq
              simp only [Option.bind_some] at hq
              have : es.length ≤ j := by simpa using hq
              simp only [Option.bind_some, Array.getElem?_toList, Array.getElem?_eq_none (show ents.size ≤ j by omega), Option.map_none]
          refine ⟨if ok then .tuple #[z, .bool false] else z, ?_, ?_⟩
          · simp [Instr.lookup, run_underlying H.und, MapKept.run_getObj_map h1, H.check _ w l e2, hf2, hz1 w]
          · cases ok with
            | true => exact tup2 (hz2 E w) (rep_val rfl)
            | false => exact hz2 E w
      have he : (execOp a.eval o).run P w = .ok (.value v) w := by
        simp [execOp, ho, hu, hv1]
      unfold Oper.wp
      rw [he]
      exact hK n _ E _ _ ⟨rfl, rfl⟩ (h.put hd hv2)
theorem insert_run {M : MTab} (hM : MTabOk P M) {W0 : Fix} {R0 D : Nat → Prop} {E : Env} {a : Act} {w : World} (h : Sim W0 R0 ns D s E a w) {o : Oper} {x y z : Operand} {t : TypeId} (ho : o.op = .mapUpdate t x y z ∨ o.op = .insert t x y z) {i : MapI} (hi : M t = some i) {id clock : Nat} {es : List (List Int × SV × Nat)} {kv vv : SV} {l : List Int}
    (hx : opd ns s x = some (.mp id)) (hm : s.mem id = some (mapB i es clock)) (hy : opd ns s y = some kv) (hl : keyOf i kv = some l) (hlen : es.all (fun q => q.1.length == i.kk.length) = true) (hj : findK l (es.map (·.1)) 0 = none) (hz : opd ns s z = some vv) :
    ∃ w', (execOp a.eval o).run P w = .ok .skip w' ∧ Sim W0 R0 ns D ⟨s.slots, setMem s.mem id (some (mapB i (es ++ [(l, vv, clock)]) (clock + 1)))⟩ E a w' := by
  have H := hM t i hi
  obtain ⟨u, hu⟩ : ∃ u, a.eval x = u := ⟨_, rfl⟩
  have hr := h.opd hx
  rw [hu] at hr
  obtain ⟨e1, e2⟩ := keyOf_spec H.one hl (h.opd hy)
  have hzv := h.opd hz
  cases hr with
  | mp _ hdm =>
    have Hb := h.mem id _ hm
    cases Hb with
    | map _ _ _ ents h1 h2 h3 =>
      rw [List.length_map] at h2
      have h4 : ∀ (j : Nat) q e, es[j]? = some q → ents[j]? = some e → e.key = keyVal i.agg i.kk q.1 ∧ e.born = q.2.2 ∧ Rep E w q.2.1 e.val := fun j q e hq he => h3 j (keyVal i.agg i.kk q.1, q.2) e (by rw [List.getElem?_map, hq]; rfl) he
      have hks := map_keys h2 h4
      have hf := H.find w l ents.toList (es.map (·.1)) e2 (fun q hq => by
        obtain ⟨p, hp, rfl⟩ := List.mem_map.1 hq
        simpa using List.all_eq_true.1 hlen p hp) hks
      rw [hj] at hf
      simp only [Option.bind_none] at hf
      have hset : ∀ (es' : Array MapEntry) (c' : Nat), (setObj (E.home id).blk (.map es' c')).run P w = .ok () (w.putObj (E.home id).blk (.map es' c')) := fun es' c' => MapKept.run_setObj_map _ h1
      have hrun : (execOp a.eval o).run P w = .ok .skip (w.putObj (E.home id).blk (.map (ents.push { key := keyVal i.agg i.kk l, val := a.eval z, born := clock }) (clock + 1))) := by
        rcases ho with ho | ho <;> simp [execOp, ho, hu, e1, Instr.mapUpdate, run_underlying H.und, MapKept.run_getObj_map h1, H.check _ w l e2, hf, hset]
      have hro : ¬ E.ro (E.home id).blk := fun k => by have := (h.frz id _ hm).2 k; cases this
      have hlt : (E.home id).blk < w.heap.size := (Array.getElem?_eq_some_iff.1 h1).1
      have hk : ∀ b, E.ro b → (w.putObj (E.home id).blk (.map (ents.push { key := keyVal i.agg i.kk l, val := a.eval z, born := clock }) (clock + 1))).heap[b]? = w.heap[b]? := fun b hb => World.putObj_heap_other fun e => hro (e ▸ hb)
      have key := h.write (b' := mapB i (es ++ [(l, vv, clock)]) (clock + 1)) hm rfl rfl (grownBy_putObj' w (E.home id).blk (.map (ents.push { key := keyVal i.agg i.kk l, val := a.eval z, born := clock }) (clock + 1))) (.map _ _ _ (ents.push { key := keyVal i.agg i.kk l, val := a.eval z, born := clock }) (World.putObj_heap_same hlt) (by simp [h2]) fun k q e hq he => by
        rw [List.getElem?_map, Option.map_eq_some_iff] at hq
        obtain ⟨p, hp, rfl⟩ := hq
        by_cases hk2 : k < es.length
        · rw [List.getElem?_append_left hk2] at hp
          rw [Array.getElem?_push, if_neg (by omega)] at he
          obtain ⟨a1, a2, a3⟩ := h4 k p e hp he
          exact ⟨a1, a2, a3.keep (Env.le.refl E) hk⟩
        · rw [List.getElem?_append_right (by omega)] at hp
          have hk0 : k = es.length := by
            have := (List.getElem?_eq_some_iff.1 hp).1
            simp at this
            omega
          subst hk0
          simp at hp
          rw [Array.getElem?_push, if_pos h2.symm] at he
          cases hp; cases he
          exact ⟨rfl, rfl, hzv.keep (Env.le.refl E) hk⟩)
      exact ⟨_, hrun, key⟩
theorem stepI_insert {M : MTab} (hM : MTabOk P M) {o : Oper} {x y z : Operand} {t : TypeId} (ho : o.op = .mapUpdate t x y z ∨ o.op = .insert t x y z) {i : MapI} (hi : M t = some i) {id clock : Nat} {es : List (List Int × SV × Nat)} {kv vv : SV} {l : List Int}
    (hx : opd ns s x = some (.mp id)) (hm : s.mem id = some (mapB i es clock)) (hy : opd ns s y = some kv) (hl : keyOf i kv = some l) (hlen : es.all (fun q => q.1.length == i.kk.length) = true) (hj : findK l (es.map (·.1)) 0 = none) (hz : opd ns s z = some vv) :
    StepI P r ns n s o fun n' s' => n' = n ∧ s' = { slots := setSlot s.slots o.dst .und, mem := setMem s.mem id (some (mapB i (es ++ [(l, vv, clock)]) (clock + 1))) } := by
  intro W0 R0 B E a w hin h hd K Q hK
  refine oper_in (fun c e => by rcases ho with ho | ho <;> rw [ho] at e <;> cases e) ?_
  obtain ⟨w', hrun, key⟩ := insert_run hM h ho hi hx hm hy hl hlen hj hz
  unfold Oper.wp
  rw [hrun]
  exact hK n _ E _ _ ⟨rfl, rfl⟩ (key.put hd (Rep.und (E := E) (w := w') undef))
theorem ExecS.lookup {M : MTab} (hM : MTabOk P M) {ops : Array Oper} {o : Oper} {lo : List Oper} {Q : Nat → St → Prop} {x y : Operand} {t : TypeId} {ok : Bool} (ho : o.op = .lookup t x y ok) {i : MapI} {id clock : Nat} {es : List (List Int × SV × Nat)} {kv : SV} {l : List Int} (hg : guardS ops ns s o = some true) (hi : M t = some i)
    (hx : opd ns s x = some (.mp id)) (hm : s.mem id = some (mapB i es clock)) (hy : opd ns s y = some kv) (hl : keyOf i kv = some l) (hlen : es.all (fun q => q.1.length == i.kk.length) = true)
    (h : ExecS P r ns ops n lo { slots := setSlot s.slots o.dst (lookV i es l ok), mem := s.mem } Q) : ExecS P r ns ops n (o :: lo) s Q :=
  ⟨hg, _, stepI_lookup hM ho hi hx hm hy hl hlen, fun n' s' ⟨e1, e2⟩ => by rw [e1, e2]; exact h⟩
theorem ExecS.insert {M : MTab} (hM : MTabOk P M) {ops : Array Oper} {o : Oper} {lo : List Oper} {Q : Nat → St → Prop} {x y z : Operand} {t : TypeId} (ho : o.op = .mapUpdate t x y z ∨ o.op = .insert t x y z) {i : MapI} {id clock : Nat} {es : List (List Int × SV × Nat)} {kv vv : SV} {l : List Int} (hg : guardS ops ns s o = some true) (hi : M t = some i)
    (hx : opd ns s x = some (.mp id)) (hm : s.mem id = some (mapB i es clock)) (hy : opd ns s y = some kv) (hl : keyOf i kv = some l) (hlen : es.all (fun q => q.1.length == i.kk.length) = true) (hj : findK l (es.map (·.1)) 0 = none) (hz : opd ns s z = some vv)
    (h : ExecS P r ns ops n lo { slots := setSlot s.slots o.dst .und, mem := setMem s.mem id (some (mapB i (es ++ [(l, vv, clock)]) (clock + 1))) } Q) : ExecS P r ns ops n (o :: lo) s Q :=
  ⟨hg, _, stepI_insert hM ho hi hx hm hy hl hlen hj hz, fun n' s' ⟨e1, e2⟩ => by rw [e1, e2]; exact h⟩
section
variable {l0 : List Oper} {n0 : Nat} {o : Oper} {l : List Oper} {acc : List FtV} {Q : Nat → St → Prop}
end
end Go.Proofs.Ytdkneonokbakjaa.Eng

noncomputable section
namespace Go.Proofs.Ytdkneonokbakjaa.Eng
open Go.RowKit
variable {P : Program} {T : Tab} {r : Option Nat} {ns n : Nat} {s : St}
theorem ExecS.makeMap {ops : Array Oper} {o : Oper} {l : List Oper} {Q : Nat → St → Prop} {t : TypeId} (i : MapI) (hg : guardS ops ns s o = some true) (ho : o.op = .makeMap t none)
    (h : ExecS P r ns ops (n + 1) l ⟨setSlot s.slots o.dst (.mp n), setMem s.mem n (some (mapB i [] 0))⟩ Q) : ExecS P r ns ops n (o :: l) s Q :=
  ⟨hg, fun n' s' => n' = n + 1 ∧ s' = ⟨setSlot s.slots o.dst (.mp n), setMem s.mem n (some (mapB i [] 0))⟩, fun W0 R0 B E a w hin hs hd K1 Q' hK1 => by
    have hDn : ¬ n < n := Nat.lt_irrefl n
    have hb : Below w.heap.size w (w.alloc (.map #[] 0)) := (Below.refl _ _).alloc (Nat.le_refl _) _
    have hro : ∀ b, E.ro b → (w.alloc (.map #[] 0)).heap[b]? = w.heap[b]? := fun b hb' => hb.block b (hs.rlt b hb')
    have key := hs.new (w' := w.alloc (.map #[] 0)) hDn (mapB i [] 0) ⟨w.heap.size, 0, 0⟩ (hs.kept hb) hro (fun k c hk => hb.block _ (hs.mem k c hk).lt) (.map [] 0 false #[] (heap_alloc_new w _) rfl (by simp)) (hs.fresh (Nat.le_refl _)) rfl (fun hk => Nat.lt_irrefl _ (hs.rlt _ hk)) (fun k c hk e => Nat.lt_irrefl _ (e ▸ (hs.mem k c hk).lt))
    have h4 := key.weak (D' := (· < n + 1)) fun i hi => hi.elim (fun e => by subst e; exact Nat.lt_succ_self _) (fun h => Nat.lt_succ_of_lt h)
    have hr : (execOp a.eval o).run P w = .ok (.value (.map (some w.heap.size))) (w.alloc (.map #[] 0)) := by simp [execOp, ho, Instr.makeMap]
    refine oper_in (fun c e => by rw [ho] at e; cases e) ?_
    unfold Oper.wp
    rw [hr]
    refine hK1 (n + 1) _ (E.add n ⟨w.heap.size, 0, 0⟩) _ (w.alloc (.map #[] 0)) ⟨rfl, rfl⟩ ?_
    refine h4.put hd ?_
    have := Rep.mp (E := E.add n ⟨w.heap.size, 0, 0⟩) (w := w.alloc (.map #[] 0)) n (.inl rfl)
    simpa [Env.add] using this, fun n' s' ⟨e1, e2⟩ => by rw [e1, e2]; exact h⟩
end Go.Proofs.Ytdkneonokbakjaa.Eng

noncomputable section
namespace Go.Proofs.Ytdkneonokbakjaa.Eng
open Go.RowKit
set_option maxRecDepth 100000
set_option maxHeartbeats 8000000
theorem findK_no {l : List Int} {ks : List (List Int)} (h : l ∉ ks) : findK l ks 0 = none := by
  cases hf : findK l ks 0 with
  | none => rfl
  | some j =>
    obtain ⟨b, hb, rfl⟩ := findK_lt ks hf
    exact absurd (List.mem_of_getElem? hb) h
structure MpS (A : Rgs) (S : Nat → Bool) (es : List (List Int × SV × Nat)) (c : Nat) : Prop where
  mem : ∀ q ∈ es, ∃ p : Nat, p < 12 ∧ S p = true ∧ q.1 = [(p : Int)] ∧ q.2.1 = .d (iD (A p).2)
  has : ∀ p, p < 12 → S p = true → ∃ q ∈ es, q.1 = [(p : Int)]
  k : (es.map (·.1)).Nodup
  b : (es.map (·.2.2)).Nodup
  lt : ∀ q ∈ es, q.2.2 < c
theorem MpS.all {A : Rgs} {S : Nat → Bool} {es : List (List Int × SV × Nat)} {c : Nat} (h : MpS A S es c) : es.all (fun q => q.1.length == mi.kk.length) = true := by
  rw [List.all_eq_true]
  intro q hq
  obtain ⟨p, -, -, e, -⟩ := h.mem q hq
  rw [e]
  rfl
theorem MpS.look {A : Rgs} {S : Nat → Bool} {es : List (List Int × SV × Nat)} {c : Nat} (h : MpS A S es c) {p : Nat} (hp : p < 12) : lookV mi es [(p : Int)] true = if S p = true then .tup [.d (iD (A p).2), .d (.val (.bool true))] else .tup [.d (iD 0), .d (.val (.bool false))] := by
  by_cases hs : S p = true
  · rw [if_pos hs]
    obtain ⟨q, hq, e⟩ := h.has p hp hs
    obtain ⟨j, hj, -⟩ := erase_key hq h.k
    rw [e] at hj
    obtain ⟨b, hb, hb2⟩ := findK_lt _ hj
    rw [List.getElem?_map, Option.map_eq_some_iff] at hb
    obtain ⟨q2, hq2, rfl⟩ := hb
    obtain ⟨p2, -, -, e2, e3⟩ := h.mem q2 (List.mem_of_getElem? hq2)
    rw [e2] at hb2
    have : p2 = p := by
      have := List.cons.inj hb2
      omega
    subst this
    unfold lookV
    rw [hj]
    simp only [Option.bind_some, hq2, if_true]
    rw [e3]
  · rw [if_neg hs]
    have hno : [(p : Int)] ∉ es.map (·.1) := fun hm => by
      obtain ⟨q, hq, e⟩ := List.mem_map.1 hm
      obtain ⟨p2, -, h2, e2, -⟩ := h.mem q hq
      rw [e2] at e
      have : p2 = p := by
        have := List.cons.inj e
        omega
      subst this
      exact hs h2
    unfold lookV
    rw [findK_no hno]
    rfl
def nzB (A : Rgs) (p : Nat) : Bool := !(decide ((A p).1 = 0) && decide ((A p).2 = 0))
theorem nzB_iff {A : Rgs} {p : Nat} : nzB A p = true ↔ ¬ ((A p).1 = 0 ∧ (A p).2 = 0) := by simp [nzB, Decidable.imp_iff_not_or]
def begE (A : Rgs) : Nat → List (List Int × SV × Nat)
  | 0 => []
  | k + 1 => if nzB A k = true then begE A k ++ [([(k : Int)], .d (iD (A k).2), (begE A k).length)] else begE A k
theorem beg_mps (A : Rgs) : ∀ k, k ≤ 12 → MpS A (fun p => decide (p < k) && nzB A p) (begE A k) (begE A k).length
  | 0, _ => ⟨fun q hq => (by cases hq), fun p _ h => (by simp at h), List.nodup_nil, List.nodup_nil, fun q hq => (by cases hq)⟩
  | k + 1, hk => by
    have ih := beg_mps A k (by omega)
    by_cases h : nzB A k = true
    · rw [begE, if_pos h]
      refine ⟨fun q hq => ?_, fun p hp hs => ?_, ?_, ?_, fun q hq => ?_⟩
      · rcases List.mem_append.1 hq with hq | hq
        · obtain ⟨p, h1, h2, h3, h4⟩ := ih.mem q hq
          simp only [Bool.and_eq_true, decide_eq_true_eq] at h2
          exact ⟨p, h1, by simp only [Bool.and_eq_true, decide_eq_true_eq]; exact ⟨by omega, h2.2⟩, h3, h4⟩
        · rw [List.mem_singleton] at hq
          subst hq
          exact ⟨k, by omega, by simp [h], rfl, rfl⟩
      · simp only [Bool.and_eq_true, decide_eq_true_eq] at hs
        by_cases e : p = k
        · subst e
          exact ⟨_, List.mem_append_right _ (List.mem_singleton.2 rfl), rfl⟩
        · obtain ⟨q, hq, e2⟩ := ih.has p hp (by simp only [Bool.and_eq_true, decide_eq_true_eq]; exact ⟨by omega, hs.2⟩)
          exact ⟨q, List.mem_append_left _ hq, e2⟩
      · rw [List.map_append, List.nodup_append]
        refine ⟨ih.k, by simp, fun a ha b hb e => ?_⟩
        subst e
        obtain ⟨q, hq, rfl⟩ := List.mem_map.1 ha
        obtain ⟨p, h1, h2, h3, h4⟩ := ih.mem q hq
        simp only [List.map_cons, List.map_nil, List.mem_singleton] at hb
        rw [h3] at hb
        have := List.cons.inj hb
        simp only [Bool.and_eq_true, decide_eq_true_eq] at h2
        omega
      · rw [List.map_append, List.nodup_append]
        refine ⟨ih.b, by simp, fun a ha b hb e => ?_⟩
        subst e
        obtain ⟨q, hq, rfl⟩ := List.mem_map.1 ha
        have := ih.lt q hq
        simp only [List.map_cons, List.map_nil, List.mem_singleton] at hb
        omega
      · rw [List.length_append, List.length_singleton]
        rcases List.mem_append.1 hq with hq | hq
        · have := ih.lt q hq; omega
        · rw [List.mem_singleton] at hq
          subst hq
          simp only
          omega
    · rw [begE, if_neg h]
      refine ⟨fun q hq => ?_, fun p hp hs => ?_, ih.k, ih.b, ih.lt⟩
      · obtain ⟨p, h1, h2, h3, h4⟩ := ih.mem q hq
        simp only [Bool.and_eq_true, decide_eq_true_eq] at h2
        exact ⟨p, h1, by simp only [Bool.and_eq_true, decide_eq_true_eq]; exact ⟨by omega, h2.2⟩, h3, h4⟩
      · simp only [Bool.and_eq_true, decide_eq_true_eq] at hs
        have : p ≠ k := fun e => by subst e; exact h hs.2
        exact ih.has p hp (by simp only [Bool.and_eq_true, decide_eq_true_eq]; exact ⟨by omega, hs.2⟩)
theorem MpS.pass {A : Rgs} {S : Nat → Bool} {es : List (List Int × SV × Nat)} {c : Nat} (h : MpS A S es c) (s : RS) (ps : List Int) (x : Int) : MpS A (fun p => S p && decide ((A p).1 ≤ x)) (passL (whS s ps A) x es) c := by
  have hkeep : ∀ q (p : Nat), p < 12 → q.1 = [(p : Int)] → keepE (whS s ps A) x q = decide ((A p).1 ≤ x) := fun q p hp e => by
    rw [keepE, e]
    simp only [Int.toNat_natCast, wh_lo s ps A hp]
  refine ⟨fun q hq => ?_, fun p hp hs => ?_, nodup_filter_map h.k, nodup_filter_map (f := fun q : List Int × SV × Nat => q.2.2) h.b, fun q hq => h.lt q (List.mem_filter.1 hq).1⟩
  · obtain ⟨h1, h2⟩ := List.mem_filter.1 hq
    obtain ⟨p, h3, h4, h5, h6⟩ := h.mem q h1
    rw [hkeep q p h3 h5] at h2
    exact ⟨p, h3, by simp only [h4, h2, Bool.and_self], h5, h6⟩
  · simp only [Bool.and_eq_true] at hs
    obtain ⟨q, hq, e⟩ := h.has p hp hs.1
    exact ⟨q, List.mem_filter.2 ⟨hq, by rw [hkeep q p hp e]; exact hs.2⟩, e⟩
theorem begins_w {s : RS} {ps : List Int} {A : Rgs} {w : Nat} {m : Mem} (hm : WhAt s ps A w m) (n : Nat) (hw : w < n) :
    CWp Try.prog 78 [.ptr w 0 0] n m fun y n' m' => ∃ id, n ≤ id ∧ id < n' ∧ y = .mp id ∧ m' id = some (mapB mi (begE A 12) (begE A 12).length) ∧ ∀ j, j < n → m' j = m j := by
  have hl := whS_len s ps
  refine cwpK tabOk Try.func78 rfl rfl (show 1 ≤ _ by decide) rfl fun _ => ?_; simp only [Try.ntmps78]
  repeat (first | (with_reducible first | refine AWi.seqK fun _ => ?_ | refine AWi.blockK fun _ => ?_ | refine KI.go ?_) | (refine AWi.condK fun _ _ => ?_; simp [-getElem?_pos, z0, z1, z2, z0]) | ((first | refine AWi.ret ?_ | refine AWi.skip ?_ | refine AWi.exit ?_); try simp only [thenP]) | (with_reducible refine BB.go ?_; simp only [blockP, thenP, reduceIte]))
  refine AWi.region tabOk ?_
  simp [-getElem?_pos, z0, z1, z2]
  with_reducible refine KI.go ?_
  repeat (first | (with_reducible first | refine AWi.seqK fun _ => ?_ | refine AWi.blockK fun _ => ?_ | refine KI.go ?_) | (refine AWi.condK fun _ _ => ?_; simp [-getElem?_pos, z0, z1, z2, z0]) | ((first | refine AWi.ret ?_ | refine AWi.skip ?_ | refine AWi.exit ?_); try simp only [thenP]) | (with_reducible refine BB.go ?_; simp only [blockP, thenP, reduceIte]))
  refine AWi.regionS ?_
  refine ExecS.makeMap mi rfl rfl ?_
  refine ExecS.plain tabOk (out := { res := .mp (n + 1) }) rfl rfl (by simp [-getElem?_pos, z0, z1, z2]) ?_
  simp [putS, ExecS]
  try simp only [thenP]
  have o0 : ¬ w = n + 1 := by omega
  repeat (first | (with_reducible first | refine AWi.seqK fun _ => ?_ | refine AWi.blockK fun _ => ?_ | refine KI.go ?_) | ((first | refine AWi.region tabOk ?_ | refine AWi.condK fun _ _ => ?_); simp [-getElem?_pos, z0, z1, z2, hm, hl, o0]) | ((first | refine AWi.ret ?_ | refine AWi.skip ?_ | refine AWi.exit ?_); try simp only [thenP]) | (with_reducible refine BB.go ?_; simp only [blockP, thenP, reduceIte]))
  refine AWi.loopK (ι := { k : Nat // k ≤ 12 }) (fun k n1 t => n + 1 + 1 ≤ n1 ∧ t.slots 3 = .mp (n + 1) ∧ t.slots 10 = .agg (spS A) ∧ t.slots 11 = .d (iD k.1) ∧ t.mem (n + 1) = some (mapB mi (begE A k.1) (begE A k.1).length) ∧ ∀ j, j < n → t.mem j = m j) (fun k => 12 - k.1) ⟨0, by omega⟩ ?_ ?_
  · exact ⟨by omega, by simp, by simp, by simp, by simp [begE], fun j hj => by dsimp only; (try dsimp only); repeat (first | rw [setMem_lt (by omega)] | rw [putN_lt (by omega)])⟩
  rintro ⟨k, hk⟩ n1 t ⟨r0, t3, t10, t11, tm, tl⟩ kk
  simp only at t11 tm
  have w1 : IntKind.i64.wrap ((k : Int) + 1) = (k : Int) + 1 := wrap64_in (by omega)
  by_cases hk12 : k < 12
  · have hki : (k : Int) < 12 := by omega
    have hat := sp_at A hk12
    have hsl := spS_len A
    have hle : k * 2 + 2 ≤ 24 := by omega
    have hb := beg_mps A k hk
    have hnew : findK [(k : Int)] ((begE A k).map (·.1)) 0 = none := findK_no fun h => by
      obtain ⟨q, hq, e⟩ := List.mem_map.1 h
      obtain ⟨p, -, h2, e2, -⟩ := hb.mem q hq
      rw [e2] at e
      have := List.cons.inj e
      simp only [Bool.and_eq_true, decide_eq_true_eq] at h2
      omega
    by_cases hz : (A k).1 = 0 ∧ (A k).2 = 0
    · have hE : begE A (k + 1) = begE A k := by rw [begE, if_neg (fun h => nzB_iff.1 h hz)]
      obtain ⟨z1, z2⟩ := hz
      rw [z1, z2] at hat
      repeat (first | (with_reducible first | refine AWi.seqK fun _ => ?_ | refine AWi.blockK fun _ => ?_ | refine KI.go ?_) | ((first | refine AWi.region tabOk ?_ | refine AWi.condK fun _ _ => ?_); simp [-getElem?_pos, z0, z1, z2, t3, t10, t11, hki, hat, hsl, hle, w1]) | ((first | refine AWi.ret ?_ | refine AWi.skip ?_ | refine AWi.exit ?_); try simp only [thenP]) | (with_reducible refine BB.go ?_; simp only [blockP, thenP, reduceIte]))
      exact LI.go ⟨k + 1, hk12⟩ ⟨by omega, by simp [t3], by simp [t10], by simp [iD], by simp only [hE]; exact Eq.trans (by (try dsimp only); repeat (first | rw [setMem_lt (by omega)] | rw [putN_lt (by omega)])) tm, fun j hj => Eq.trans (by (try dsimp only); repeat (first | rw [setMem_lt (by omega)] | rw [putN_lt (by omega)])) (tl j hj)⟩ (by simp; omega)
    · have hE : begE A (k + 1) = begE A k ++ [([(k : Int)], .d (iD (A k).2), (begE A k).length)] := by rw [begE, if_pos (nzB_iff.2 hz)]
      have hall := hb.all
      generalize begE A k = es at *
      obtain ⟨⟨x, y⟩, hr⟩ : ∃ r, A k = r := ⟨_, rfl⟩
      rw [hr] at hat hz hE
      simp only at hat hz hE
      have o1 : ¬ n + 1 = n1 := by omega
      repeat (first | (with_reducible first | refine AWi.seqK fun _ => ?_ | refine AWi.blockK fun _ => ?_ | refine KI.go ?_) | (refine AWi.condK fun _ _ => ?_; simp [-getElem?_pos, z0, z1, z2, z0]) | ((first | refine AWi.ret ?_ | refine AWi.skip ?_ | refine AWi.exit ?_); try simp only [thenP]) | (with_reducible refine BB.go ?_; simp only [blockP, thenP, reduceIte]))
      refine AWi.region tabOk ?_
      simp [-getElem?_pos, z0, z1, z2, t3, t10, t11, hki]
      repeat (first | (with_reducible first | refine AWi.seqK fun _ => ?_ | refine AWi.blockK fun _ => ?_ | refine KI.go ?_) | (refine AWi.condK fun _ _ => ?_; simp [-getElem?_pos, z0, z1, z2, hki]) | ((first | refine AWi.ret ?_ | refine AWi.skip ?_ | refine AWi.exit ?_); try simp only [thenP]) | (with_reducible refine BB.go ?_; simp only [blockP, thenP, reduceIte]))
      refine AWi.region tabOk ?_
      simp [-getElem?_pos, z0, z1, z2, t3, t10, t11, hki, hat, hsl, hle]
      repeat (first | (with_reducible first | refine AWi.seqK fun _ => ?_ | refine AWi.blockK fun _ => ?_ | refine KI.go ?_) | (refine AWi.condK fun _ _ => ?_; simp [-getElem?_pos, z0, z1, z2, hki]) | ((first | refine AWi.ret ?_ | refine AWi.skip ?_ | refine AWi.exit ?_); try simp only [thenP]) | (with_reducible refine BB.go ?_; simp only [blockP, thenP, reduceIte]))
      refine AWi.region tabOk ?_
      simp [-getElem?_pos, z0, z1, z2, t3, t10, t11, hz]
      repeat (first | (with_reducible first | refine AWi.seqK fun _ => ?_ | refine AWi.blockK fun _ => ?_ | refine KI.go ?_) | (refine AWi.condK fun _ _ => ?_; simp [-getElem?_pos, z0, z1, z2, hz]) | ((first | refine AWi.ret ?_ | refine AWi.skip ?_ | refine AWi.exit ?_); try simp only [thenP]) | (with_reducible refine BB.go ?_; simp only [blockP, thenP, reduceIte]))
      refine AWi.regionS ?_
      refine ExecS.plain tabOk (out := { res := .mp (n + 1) }) rfl rfl (by simp [-getElem?_pos, z0, z1, z2, t3]) ?_
      refine ExecS.plain tabOk (out := { res := .d (iD k) }) rfl rfl (by simp [-getElem?_pos, z0, z1, z2, putS]) ?_
      refine ExecS.plain tabOk (out := { res := .ptr (n1 + 1 + 1 + 1) 0 1 }) rfl rfl (by simp [-getElem?_pos, z0, z1, z2, putS]) ?_
      refine ExecS.plain tabOk (out := { res := .d (iD y) }) rfl rfl (by simp [-getElem?_pos, z0, z1, z2, putS]) ?_
      have o2 : ¬ n = n1 + 2 := by omega
      refine ExecS.insert mtOk (.inl rfl) (i := mi) (id := n + 1) (clock := es.length) (es := es) (kv := .d (iD (k : Int))) (vv := .d (iD y)) (l := [(k : Int)]) rfl rfl (by simp [-getElem?_pos, z0, z1, z2, putS]) (by simp [-getElem?_pos, z0, z1, z2, putS, tm, o1, o2]) (by simp [-getElem?_pos, z0, z1, z2, putS]) (by simp [keyOf, intsOf, mi]) hall hnew (by simp [-getElem?_pos, z0, z1, z2, putS]) ?_
      simp [putS, ExecS]
      try simp only [thenP]
      repeat (first | (with_reducible first | refine AWi.seqK fun _ => ?_ | refine AWi.blockK fun _ => ?_ | refine KI.go ?_) | ((first | refine AWi.region tabOk ?_ | refine AWi.condK fun _ _ => ?_); simp [-getElem?_pos, z0, z1, z2, t11, w1]) | ((first | refine AWi.ret ?_ | refine AWi.skip ?_ | refine AWi.exit ?_); try simp only [thenP]) | (with_reducible refine BB.go ?_; simp only [blockP, thenP, reduceIte]))
      refine LI.go ⟨k + 1, hk12⟩ ⟨by omega, by simp [t3], by simp [t10], by simp [iD], ?_, fun j hj => Eq.trans (by (try dsimp only); repeat (first | rw [setMem_lt (by omega)] | rw [putN_lt (by omega)])) (tl j hj)⟩ (by simp; omega)
      simp only [hE, hr, List.length_append, List.length_singleton]
      exact if_pos rfl
  · obtain rfl : k = 12 := by omega
    repeat (first | (with_reducible first | refine AWi.seqK fun _ => ?_ | refine AWi.blockK fun _ => ?_ | refine KI.go ?_) | ((first | refine AWi.region tabOk ?_ | refine AWi.condK fun _ _ => ?_); simp [-getElem?_pos, z0, z1, z2, t3, t10, t11]) | ((first | refine AWi.ret ?_ | refine AWi.skip ?_ | refine AWi.exit ?_); try simp only [thenP]) | (with_reducible refine BB.go ?_; simp only [blockP, thenP, reduceIte]))
    refine RI.ret (xs := [.mp (n + 1)]) (by simp [Try.results78, resSlots, resSlot, z0]) ?_
    exact ⟨n + 1, by omega, by omega, rfl, tm, tl⟩
end Go.Proofs.Ytdkneonokbakjaa.Eng

noncomputable section
namespace Go.Proofs.Ytdkneonokbakjaa.Eng
open Go.RowKit
set_option maxRecDepth 100000
set_option maxHeartbeats 8000000
theorem filter_range_at {f : Nat → Bool} {i : Nat} (h : f i = true) : ∀ {n : Nat}, i < n → ((List.range n).filter f)[((List.range i).filter f).length]? = some i
  | n + 1, hi => by
    rw [List.range_succ, List.filter_append]
    by_cases e : i = n
    · subst e
      rw [List.getElem?_append_right (Nat.le_refl _), Nat.sub_self, List.filter_cons, if_pos h]
      rfl
    · have ih := filter_range_at (f := f) h (show i < n by omega)
      rw [List.getElem?_append_left (List.getElem?_eq_some_iff.1 ih).1]
      exact ih
theorem filter_range_succ {f : Nat → Bool} {i : Nat} : ((List.range (i + 1)).filter f).length = ((List.range i).filter f).length + (if f i = true then 1 else 0) := by
  rw [List.range_succ, List.filter_append, List.length_append]
  by_cases h : f i = true <;> simp [h]
def rdyF (A : Rgs) (S : Nat → Bool) (x : Int) (p : Nat) : Bool := S p && decide (x ≤ (A p).2)
def rdyL (A : Rgs) (S : Nat → Bool) (x : Int) (n : Nat) : List Nat := (List.range n).filter (rdyF A S x)
def rdyV (p : Nat) : List SV := [.d (iD (p : Int))]
def rdyK (A : Rgs) (S : Nat → Bool) (x : Int) (id k0 k1 : Nat) (m : Mem) : Prop := (∃ z, m k0 = some (.box 115 [.mp id] z)) ∧ (∃ z, m k1 = some (.box 2 [.d (iD x)] z)) ∧ ∃ es c, MpS A S es c ∧ m id = some (mapB mi es c)
theorem ready1_w {A : Rgs} {S : Nat → Bool} (x : Int) (id k0 k1 : Nat) :
    Iterates Try.prog 86 (fun Y => [Y, .ptr k0 0 0, .ptr k1 0 0]) ((rdyL A S x 12).map rdyV) (rdyK A S x id k0 k1) := by
  intro Y n0 I J hY hI hJ hk hy n m hn h0
  obtain ⟨⟨z0', hz0⟩, ⟨z1', hz1⟩, -⟩ := hk _ _ h0
  have l0 : k0 < n0 := Below'.lt (hI 0) h0 fun m h e => by obtain ⟨z, h1⟩ := (hk _ _ h).1; rw [e] at h1; cases h1
  have l1 : k1 < n0 := Below'.lt (hI 0) h0 fun m h e => by obtain ⟨z, h1⟩ := (hk _ _ h).2.1; rw [e] at h1; cases h1
  have l2 : id < n0 := Below'.lt (hI 0) h0 fun m h e => by obtain ⟨es, c, -, h1⟩ := (hk _ _ h).2.2; rw [e] at h1; cases h1
  refine cwpK tabOk Try.func86 rfl rfl (show 3 ≤ _ by decide) rfl fun _ => ?_; simp only [Try.ntmps86]
  repeat (first | (with_reducible first | refine AWi.seqK fun _ => ?_ | refine AWi.blockK fun _ => ?_ | refine KI.go ?_) | ((first | refine AWi.region tabOk ?_ | refine AWi.condK fun _ _ => ?_); simp [-getElem?_pos, z0, z1, z2, hz1]) | ((first | refine AWi.ret ?_ | refine AWi.skip ?_ | refine AWi.exit ?_); try simp only [thenP]) | (with_reducible refine BB.go ?_; simp only [blockP, thenP, reduceIte]))
  refine AWi.loopK (fun i n1 t => Keeps n0 n m n1 t.mem ∧ I (rdyL A S x i).length t.mem ∧ t.slots 0 = Y ∧ t.slots 1 = .ptr k0 0 0 ∧ t.slots 2 = .ptr k1 0 0 ∧ t.slots 7 = .d (iD (i : Nat)) ∧ i ≤ 12) (fun i => 12 - i) 0 ?_ ?_
  · exact ⟨Keeps.more (by omega), h0, by simp, by simp, by simp, by simp, by omega⟩
  rintro i n1 t ⟨hkp, hi, t0, t1, t2, t7, hil⟩ kk
  have w1 : IntKind.i64.wrap ((i : Int) + 1) = (i : Int) + 1 := wrap64_in (by omega)
  obtain ⟨⟨za, ha⟩, ⟨zb, hb⟩, es, c, hms, hmp⟩ := hk _ _ hi
  have hn1 : n0 ≤ n1 := Nat.le_trans hn hkp.1
  by_cases hlt : i < 12
  · have hii : (i : Int) < 12 := by omega
    have hlk := hms.look hlt
    have hall := hms.all
    have hlen := filter_range_succ (f := rdyF A S x) (i := i)
    repeat (first | (with_reducible first | refine AWi.seqK fun _ => ?_ | refine AWi.blockK fun _ => ?_ | refine KI.go ?_) | (refine AWi.condK fun _ _ => ?_; simp [-getElem?_pos, z0, z1, z2, z0]) | ((first | refine AWi.ret ?_ | refine AWi.skip ?_ | refine AWi.exit ?_); try simp only [thenP]) | (with_reducible refine BB.go ?_; simp only [blockP, thenP, reduceIte]))
    refine AWi.region tabOk ?_
    simp [-getElem?_pos, z0, z1, z2, t7, hii]
    repeat (first | (with_reducible first | refine AWi.seqK fun _ => ?_ | refine AWi.blockK fun _ => ?_ | refine KI.go ?_) | (refine AWi.condK fun _ _ => ?_; simp [-getElem?_pos, z0, z1, z2, hii]) | ((first | refine AWi.ret ?_ | refine AWi.skip ?_ | refine AWi.exit ?_); try simp only [thenP]) | (with_reducible refine BB.go ?_; simp only [blockP, thenP, reduceIte]))
    refine AWi.region tabOk ?_
    simp [-getElem?_pos, z0, z1, z2, t7, hii]
    repeat (first | (with_reducible first | refine AWi.seqK fun _ => ?_ | refine AWi.blockK fun _ => ?_ | refine KI.go ?_) | (refine AWi.condK fun _ _ => ?_; simp [-getElem?_pos, z0, z1, z2, hii]) | ((first | refine AWi.ret ?_ | refine AWi.skip ?_ | refine AWi.exit ?_); try simp only [thenP]) | (with_reducible refine BB.go ?_; simp only [blockP, thenP, reduceIte]))
    refine AWi.regionS ?_
    refine ExecS.plain tabOk (out := { res := .mp id }) rfl rfl (by simp [-getElem?_pos, z0, z1, z2, t1, ha]) ?_
    refine ExecS.plain tabOk (out := { res := .d (iD i) }) rfl rfl (by simp [-getElem?_pos, z0, z1, z2, putS, t7]) ?_
    refine ExecS.lookup mtOk (i := mi) (id := id) (clock := c) (es := es) (kv := .d (iD (i : Int))) (l := [(i : Int)]) rfl rfl rfl (by simp [-getElem?_pos, z0, z1, z2, putS]) (by simp [-getElem?_pos, z0, z1, z2, putS, hmp]) (by simp [-getElem?_pos, z0, z1, z2, putS]) (by simp [keyOf, intsOf, mi]) hall ?_
    by_cases hs : S i = true
    · rw [if_pos hs] at hlk
      rw [hlk]
      refine ExecS.plain tabOk (out := { res := .tup [.d (iD (A i).2), .d (.val (.bool true))] }) rfl rfl (by simp [-getElem?_pos, z0, z1, z2, putS]) ?_
      refine ExecS.plain tabOk (out := { res := .d (iD (A i).2) }) rfl rfl (by simp [-getElem?_pos, z0, z1, z2, putS]) ?_
      refine ExecS.plain tabOk (out := { res := .d (.val (.bool true)) }) rfl rfl (by simp [-getElem?_pos, z0, z1, z2, putS]) ?_
      refine ExecS.plain tabOk (out := { res := .d (iD (A i).2) }) rfl rfl (by simp [-getElem?_pos, z0, z1, z2, putS]) ?_
      refine ExecS.plain tabOk (out := { res := .d (.val (.bool true)) }) rfl rfl (by simp [-getElem?_pos, z0, z1, z2, putS]) ?_
      simp [putS, ExecS]
      try simp only [thenP]
      by_cases hx : x ≤ (A i).2
      · have hf : rdyF A S x i = true := by rw [rdyF, hs, decide_eq_true hx]; rfl
        rw [if_pos hf] at hlen
        have hget : ((rdyL A S x 12).map rdyV)[(rdyL A S x i).length]? = some [.d (iD (i : Int))] := by
          rw [List.getElem?_map, rdyL, rdyL, filter_range_at hf hlt]
          rfl
        repeat (first | (with_reducible first | refine AWi.seqK fun _ => ?_ | refine AWi.blockK fun _ => ?_ | refine KI.go ?_) | ((first | refine AWi.region tabOk ?_ | refine AWi.condK fun _ _ => ?_); simp [-getElem?_pos, z0, z1, z2, t0, t2, t7, hb, hx]) | ((first | refine AWi.ret ?_ | refine AWi.skip ?_ | refine AWi.exit ?_); try simp only [thenP]) | (with_reducible refine BB.go ?_; simp only [blockP, thenP, reduceIte]))
        refine ExecI.callY (Y := Y) (xs := [.d (iD (i : Int))]) (hy _ _ _ _ hget (by omega) (hI _ _ _ (fun j hj => by (try dsimp only); repeat (first | rw [setMem_lt (by omega)] | rw [putN_lt (by omega)])) hi)) (by simp [-getElem?_pos, z0, z1, z2]) (by simp [calleeV, evList]) ?_
        rintro y n' m' ⟨hk2, ⟨rfl, h⟩ | ⟨rfl, h⟩⟩
        · simp [-getElem?_pos, z0, z1, z2]
          repeat (first | (with_reducible first | refine AWi.seqK fun _ => ?_ | refine AWi.blockK fun _ => ?_ | refine KI.go ?_) | ((first | refine AWi.region tabOk ?_ | refine AWi.condK fun _ _ => ?_); simp [-getElem?_pos, z0, z1, z2, t7, w1]) | ((first | refine AWi.ret ?_ | refine AWi.skip ?_ | refine AWi.exit ?_); try simp only [thenP]) | (with_reducible refine BB.go ?_; simp only [blockP, thenP, reduceIte]))
          exact LI.go (i + 1) ⟨(hkp.trans ⟨by omega, fun j h1 h2 => by (try dsimp only); repeat (first | rw [setMem_lt (by omega)] | rw [putN_lt (by omega)])⟩).trans (hk2.trans (Keeps.more (by omega))), by rw [rdyL, hlen]; exact h, by simp [t0], by simp [t1], by simp [t2], by simp [iD], hlt⟩ (by omega)
        · simp [-getElem?_pos, z0, z1, z2]
          repeat (first | (with_reducible first | refine AWi.seqK fun _ => ?_ | refine AWi.blockK fun _ => ?_ | refine KI.go ?_) | ((first | refine AWi.region tabOk ?_ | refine AWi.condK fun _ _ => ?_); simp [-getElem?_pos, z0, z1, z2, z0]) | ((first | refine AWi.ret ?_ | refine AWi.skip ?_ | refine AWi.exit ?_); try simp only [thenP]) | (with_reducible refine BB.go ?_; simp only [blockP, thenP, reduceIte]))
          exact RI.ret rfl ⟨(hkp.trans ⟨by omega, fun j h1 h2 => by (try dsimp only); repeat (first | rw [setMem_lt (by omega)] | rw [putN_lt (by omega)])⟩).trans (hk2.trans (Keeps.more (by omega))), .inr h⟩
      · have hf : rdyF A S x i = false := by rw [rdyF, hs, decide_eq_false hx]; rfl
        rw [if_neg (by rw [hf]; decide)] at hlen
        repeat (first | (with_reducible first | refine AWi.seqK fun _ => ?_ | refine AWi.blockK fun _ => ?_ | refine KI.go ?_) | ((first | refine AWi.region tabOk ?_ | refine AWi.condK fun _ _ => ?_); simp [-getElem?_pos, z0, z1, z2, t0, t2, t7, hb, hx, w1]) | ((first | refine AWi.ret ?_ | refine AWi.skip ?_ | refine AWi.exit ?_); try simp only [thenP]) | (with_reducible refine BB.go ?_; simp only [blockP, thenP, reduceIte]))
        exact LI.go (i + 1) ⟨hkp.trans (Keeps.more (by omega)), by rw [rdyL, hlen]; exact hi, by simp [t0], by simp [t1], by simp [t2], by simp [iD], hlt⟩ (by omega)
    · rw [if_neg hs] at hlk
      rw [hlk]
      have hf : rdyF A S x i = false := by rw [rdyF, eq_false_of_ne_true hs]; rfl
      rw [if_neg (by rw [hf]; decide)] at hlen
      refine ExecS.plain tabOk (out := { res := .tup [.d (iD 0), .d (.val (.bool false))] }) rfl rfl (by simp [-getElem?_pos, z0, z1, z2, putS]) ?_
      refine ExecS.plain tabOk (out := { res := .d (iD 0) }) rfl rfl (by simp [-getElem?_pos, z0, z1, z2, putS]) ?_
      refine ExecS.plain tabOk (out := { res := .d (.val (.bool false)) }) rfl rfl (by simp [-getElem?_pos, z0, z1, z2, putS]) ?_
      refine ExecS.plain tabOk (out := { res := .d (iD 0) }) rfl rfl (by simp [-getElem?_pos, z0, z1, z2, putS]) ?_
      refine ExecS.plain tabOk (out := { res := .d (.val (.bool false)) }) rfl rfl (by simp [-getElem?_pos, z0, z1, z2, putS]) ?_
      simp [putS, ExecS]
      try simp only [thenP]
      repeat (first | (with_reducible first | refine AWi.seqK fun _ => ?_ | refine AWi.blockK fun _ => ?_ | refine KI.go ?_) | ((first | refine AWi.region tabOk ?_ | refine AWi.condK fun _ _ => ?_); simp [-getElem?_pos, z0, z1, z2, t0, t2, t7, hb, w1]) | ((first | refine AWi.ret ?_ | refine AWi.skip ?_ | refine AWi.exit ?_); try simp only [thenP]) | (with_reducible refine BB.go ?_; simp only [blockP, thenP, reduceIte]))
      exact LI.go (i + 1) ⟨hkp.trans (Keeps.more (by omega)), by rw [rdyL, hlen]; exact hi, by simp [t0], by simp [t1], by simp [t2], by simp [iD], hlt⟩ (by omega)
  · obtain rfl : i = 12 := by omega
    repeat (first | (with_reducible first | refine AWi.seqK fun _ => ?_ | refine AWi.blockK fun _ => ?_ | refine KI.go ?_) | ((first | refine AWi.region tabOk ?_ | refine AWi.condK fun _ _ => ?_); simp [-getElem?_pos, z0, z1, z2, t7]) | ((first | refine AWi.ret ?_ | refine AWi.skip ?_ | refine AWi.exit ?_); try simp only [thenP]) | (with_reducible refine BB.go ?_; simp only [blockP, thenP, reduceIte]))
    exact RI.normal rfl ⟨hkp.trans (Keeps.more (by omega)), .inl (by rw [List.length_map]; exact hi)⟩
end Go.Proofs.Ytdkneonokbakjaa.Eng

noncomputable section
namespace Go.Proofs.Ytdkneonokbakjaa.Eng
open Go.RowKit
set_option maxRecDepth 100000
set_option maxHeartbeats 8000000
theorem mixedM : Try.prog.follows .mixedOrders = true := by kernel_rfl
abbrev readyF (n : Nat) : SV := .fn 86 [] [.ptr n 0 0, .ptr (n + 1) 0 0]
abbrev readyM (m : Mem) (id : Nat) (x : Int) (n : Nat) : Mem := setMem (setMem m n (some (.box 115 [.mp id] false))) (n + 1) (some (.box 2 [.d (iD x)] false))
theorem ready_n {A : Rgs} {S : Nat → Bool} {es : List (List Int × SV × Nat)} {c id : Nat} {m : Mem} (hm : m id = some (mapB mi es c)) (hs : MpS A S es c) (x : Int) (n : Nat) (hn : id < n) : NCall Try.prog 81 [.mp id, .d (iD x)] (only m [id]) n (n + 1 + 1 + 1 + 1 + 1) (readyF n) (readyM (only m [id]) id x n) := by
  have hsm : (only m [id] id).isSome = true := by simp [only, hm]
  have h0 : ∀ i b, only m [id] i = some b → i = id ∧ b = mapB mi es c := fun i b hb => by
    unfold only at hb
    split at hb
    · rename_i h
      have h := List.mem_singleton.1 h
      subst h
      rw [hm] at hb
      cases hb
      exact ⟨rfl, rfl⟩
    · cases hb
  have hmap : ∀ S : Nat → Prop, OfB S (mapB mi es c) := fun S => .map _ _ _ fun q hq => by
    obtain ⟨p, hp, rfl⟩ := List.mem_map.1 hq
    obtain ⟨k, -, -, -, e⟩ := hs.mem p hp
    simp only
    rw [e]
    exact .d _
  have h : CWp Try.prog 81 [.mp id, .d (iD x)] n (only m [id]) fun y n' m' => readyF n = y ∧ n + 1 + 1 + 1 + 1 + 1 = n' ∧ readyM (only m [id]) id x n = m' := by
    refine cwpK tabOk Try.func81 rfl rfl (show 2 ≤ _ by decide) rfl fun _ => ?_; simp only [Try.ntmps81]
    repeat (first | (with_reducible first | refine AWi.seqK fun _ => ?_ | refine AWi.blockK fun _ => ?_ | refine KI.go ?_) | ((first | refine AWi.region tabOk ?_ | refine AWi.condK fun _ _ => ?_ | refine AWi.draws tabOk rfl (by kernel_rfl) (by kernel_rfl) ?_); simp [-getElem?_pos, z0, z1, z2, z0]) | ((first | refine AWi.ret ?_ | refine AWi.skip ?_ | refine AWi.exit ?_); try simp only [thenP]) | (with_reducible refine BB.go ?_; simp only [blockP, thenP, reduceIte]) | (with_reducible refine And.intro (okLog_c (by simp [footOf, guardSlot, slotsOf, idsRead, looks, idsOf, idsOf1, idsWritten, colF]; kernel_rfl)) ?_))
    exact RI.ret rfl ⟨rfl, rfl, rfl⟩
  refine NCall.of h (fun i b hb => by obtain ⟨rfl, _⟩ := h0 i b hb; exact hn) (fun i b hb => by obtain ⟨_, rfl⟩ := h0 i b hb; exact hmap _) (fun x hx => ?_) (fun i b hb => ?_) ?_
  · simp at hx
    rcases hx with rfl | rfl
    · exact .mp _ hsm
    · exact .d _
  · unfold readyM setMem at hb
    by_cases e2 : i = n + 1
    · rw [if_pos e2] at hb; cases hb
      exact ⟨.inr ⟨by omega, by omega⟩, .box _ _ _ fun c hc => by simp at hc; subst hc; exact .d _⟩
    · rw [if_neg e2] at hb
      by_cases e1 : i = n
      · rw [if_pos e1] at hb; cases hb
        exact ⟨.inr ⟨by omega, by omega⟩, .box _ _ _ fun c hc => by simp at hc; subst hc; exact .mp _ (.inl hsm)⟩
      · rw [if_neg e1] at hb
        obtain ⟨rfl, rfl⟩ := h0 i b hb
        exact ⟨.inl hsm, hmap _⟩
  · refine .fn _ _ _ (fun c hc => by cases hc) fun c hc => ?_
    simp at hc
    rcases hc with rfl | rfl <;> exact .ptr _ _ _ (.inr ⟨by omega, by omega⟩)
def costA (A : Rgs) (b : Int) : Int := (A b.toNat).1
def pickS (A : Rgs) : Option Nat → Int × Int × Bool
  | none => (0, 0, false)
  | some k => ((k : Int), (A k).1, true)
def rdyZ (A : Rgs) (S : Nat → Bool) (x : Int) (n : Nat) : List Int := (rdyL A S x n).map fun (p : Nat) => (p : Int)
theorem least_pick {A : Rgs} {S : Nat → Bool} {x : Int} : ∀ {n : Nat}, (∀ p, p < n → rdyF A S x p = bearB A p x) → leastN (costA A) (rdyZ A S x n) = pickS A (pickR A x n)
  | 0, _ => rfl
  | n + 1, h => by
    have ih := least_pick (A := A) (S := S) (x := x) (n := n) fun p hp => h p (by omega)
    have hn := h n (Nat.lt_succ_self n)
    have e : rdyZ A S x (n + 1) = rdyZ A S x n ++ (if rdyF A S x n = true then [(n : Int)] else []) := by
      rw [rdyZ, rdyL, List.range_succ, List.filter_append, List.map_append]
      by_cases g : rdyF A S x n = true <;> simp [g, rdyZ, rdyL]
    rw [e, pickR]
    by_cases g : rdyF A S x n = true
    · have g2 : bearB A n x = true := hn ▸ g
      rw [if_pos g, leastN, List.foldl_append]
      change List.foldl _ (leastN (costA A) (rdyZ A S x n)) _ = _
      rw [ih]
      simp only [List.foldl_cons, List.foldl_nil]
      cases hp : pickR A x n with
      | none =>
        simp only [pickS, g2, if_true]
        simp [leastStep, costA, pickS]
      | some j =>
        simp only [pickS, g2, true_and]
        by_cases hl : (A n).1 < (A j).1
        · rw [if_pos hl]
          simp [leastStep, costA, pickS, hl]
        · rw [if_neg hl]
          simp [leastStep, costA, pickS, hl]
    · have g2 : ¬ bearB A n x = true := hn ▸ g
      rw [if_neg g, List.append_nil, ih]
      cases hp : pickR A x n with
      | none => simp only [g2]; rfl
      | some j => simp only [g2, false_and]; rfl
def runV (r : Int × Nat) : List SV := [.agg [.d (iD r.1), .d (iD (r.2 : Int))]]
def runsF (n : Nat) : SV := .fn 77 [] [.ptr n 0 0, .ptr (n + 1) 0 0, .ptr (n + 1 + 1) 0 0]
abbrev runsM (m : Mem) (w : Nat) (x down : Int) (n : Nat) : Mem := setMem (setMem (setMem m n (some (.box 76 [.ptr w 0 0] false))) (n + 1) (some (.box 2 [.d (iD x)] false))) (n + 1 + 1) (some (.box 2 [.d (iD down)] false))
theorem runs_w (w : Nat) (x down : Int) (n : Nat) (m : Mem) : CWp Try.prog 61 [.ptr w 0 0, .d (iD x), .d (iD down)] n m fun y n' m' => runsF n = y ∧ n + 1 + 1 + 1 + 1 + 1 + 1 = n' ∧ runsM m w x down n = m' := by
  refine cwpK tabOk Try.func61 rfl rfl (show 3 ≤ _ by decide) rfl fun _ => ?_; simp only [Try.ntmps61]
  repeat (first | (with_reducible first | refine AWi.seqK fun _ => ?_ | refine AWi.blockK fun _ => ?_ | refine KI.go ?_) | ((first | refine AWi.region tabOk ?_ | refine AWi.condK fun _ _ => ?_); simp [-getElem?_pos, z0, z1, z2, z0]) | ((first | refine AWi.ret ?_ | refine AWi.skip ?_ | refine AWi.exit ?_); try simp only [thenP]) | (with_reducible refine BB.go ?_; simp only [blockP, thenP, reduceIte]))
  exact RI.ret rfl ⟨rfl, rfl, rfl⟩
def runsK (s : RS) (ps : List Int) (A : Rgs) (w k0 k1 k2 : Nat) (x down : Int) (m : Mem) : Prop := WhAt s ps A w m ∧ (∃ z, m k0 = some (.box 76 [.ptr w 0 0] z)) ∧ (∃ z, m k1 = some (.box 2 [.d (iD x)] z)) ∧ ∃ z, m k2 = some (.box 2 [.d (iD down)] z)
def MpInv (A : Rgs) (S : Nat → Bool) (x : Int) : Prop := ∀ p, p < 12 → ∀ y, 1 ≤ y → y ≤ x → bearB A p y = true → S p = true
theorem runs1_w {s : RS} {ps : List Int} {A : Rgs} (w k0 k1 k2 : Nat) (x0 down : Int) (hd : 1 ≤ down) (hx0 : x0 ≤ 1000000000) (hlo : ∀ p, p < 12 → -1000000000 ≤ (A p).1) :
    Iterates Try.prog 77 (fun Y => [Y, .ptr k0 0 0, .ptr k1 0 0, .ptr k2 0 0]) ((runsR A 12 x0 down).map runV) (runsK s ps A w k0 k1 k2 x0 down) := by
  intro Y n0 I J hY hI hJ hk hy n m hn h0
  obtain ⟨hw0, ⟨z0', hz0⟩, ⟨z1', hz1⟩, ⟨z2', hz2⟩⟩ := hk _ _ h0
  have lw : w < n0 := Below'.lt (hI 0) h0 fun m h e => by have := (hk _ _ h).1; unfold WhAt at this; rw [e] at this; cases this
  have l0 : k0 < n0 := Below'.lt (hI 0) h0 fun m h e => by obtain ⟨z, h1⟩ := (hk _ _ h).2.1; rw [e] at h1; cases h1
  have l1 : k1 < n0 := Below'.lt (hI 0) h0 fun m h e => by obtain ⟨z, h1⟩ := (hk _ _ h).2.2.1; rw [e] at h1; cases h1
  have l2 : k2 < n0 := Below'.lt (hI 0) h0 fun m h e => by obtain ⟨z, h1⟩ := (hk _ _ h).2.2.2; rw [e] at h1; cases h1
  refine cwpK tabOk Try.func77 rfl rfl (show 4 ≤ _ by decide) rfl fun _ => ?_; simp only [Try.ntmps77]
  repeat (first | (with_reducible first | refine AWi.seqK fun _ => ?_ | refine AWi.blockK fun _ => ?_ | refine KI.go ?_) | ((first | refine AWi.region tabOk ?_ | refine AWi.condK fun _ _ => ?_); simp [-getElem?_pos, z0, z1, z2, hz0]) | ((first | refine AWi.ret ?_ | refine AWi.skip ?_ | refine AWi.exit ?_); try simp only [thenP]) | (with_reducible refine BB.go ?_; simp only [blockP, thenP, reduceIte]))
  refine ExecI.callC (begins_w hw0 _ (by omega)) rfl (by simp [calleeS, evList]) ?_
  rintro y n1 m1 ⟨id, i1, i2, rfl, i3, i4⟩
  have hz1' := (i4 k1 (by omega)).trans hz1
  simp [-getElem?_pos, z0, z1, z2]
  repeat (first | (with_reducible first | refine AWi.seqK fun _ => ?_ | refine AWi.blockK fun _ => ?_ | refine KI.go ?_) | ((first | refine AWi.region tabOk ?_ | refine AWi.condK fun _ _ => ?_); simp [-getElem?_pos, z0, z1, z2, hz1']) | ((first | refine AWi.ret ?_ | refine AWi.skip ?_ | refine AWi.exit ?_); try simp only [thenP]) | (with_reducible refine BB.go ?_; simp only [blockP, thenP, reduceIte]))
  refine AWi.loopK (ι := Int × Nat) (fun p n1 t => Keeps n0 n m n1 t.mem ∧ I p.2 t.mem ∧ t.slots 0 = Y ∧ t.slots 1 = .ptr k0 0 0 ∧ t.slots 2 = .ptr k1 0 0 ∧ t.slots 3 = .ptr k2 0 0 ∧ t.slots 5 = .mp id ∧ t.slots 6 = .d (iD p.1) ∧ id < n1 ∧ p.1 ≤ x0 ∧ (∃ L, runsR A 12 x0 down = L ++ runsR A 12 p.1 down ∧ L.length = p.2) ∧ ∃ S es c, t.mem id = some (mapB mi es c) ∧ MpS A S es c ∧ MpInv A S p.1) (fun p => (p.1 + 1 - down).toNat) (x0, 0) ?_ ?_
  · refine ⟨⟨by omega, fun j j1 j2 => i4 j (by omega)⟩, hI _ _ _ (fun j hj => i4 j (by omega)) h0, by simp, by simp, by simp, by simp, by simp, by simp, by omega, Int.le_refl _, ⟨[], rfl, rfl⟩, _, _, _, i3, beg_mps A 12 (Nat.le_refl _), fun p hp y y1 y2 hb => ?_⟩
    rw [bearB_iff] at hb
    simp only [Bool.and_eq_true, decide_eq_true_eq]
    exact ⟨hp, nzB_iff.2 (by omega)⟩
  rintro ⟨x, i⟩ n2 t ⟨hkp, hi, t0, t1, t2, t3, t5, t6, hid, hxx, ⟨L, hL, hLi⟩, S, es, c, hmp, hms, hinv⟩ kk
  simp only at hi t6 hxx hL hLi hinv
  obtain ⟨hw, ⟨za, ha⟩, ⟨zb, hb⟩, ⟨zc, hc⟩⟩ := hk _ _ hi
  have hn2 : n0 ≤ n2 := Nat.le_trans hn hkp.1
  by_cases hlt : down ≤ x
  · repeat (first | (with_reducible first | refine AWi.seqK fun _ => ?_ | refine AWi.blockK fun _ => ?_ | refine KI.go ?_) | ((first | refine AWi.region tabOk ?_ | refine AWi.condK fun _ _ => ?_); simp [-getElem?_pos, z0, z1, z2, t0, t1, t2, t3, t5, t6, ha, hc, hlt]) | ((first | refine AWi.ret ?_ | refine AWi.skip ?_ | refine AWi.exit ?_); try simp only [thenP]) | (with_reducible refine BB.go ?_; simp only [blockP, thenP, reduceIte]))
    refine ExecI.callC (pass_w (cells := whS s ps A) (f := false) (es := es) (clock := c) hw hmp (by omega) (by omega) (by omega) (fun q hq => by obtain ⟨p, h1, -, h3, -⟩ := hms.mem q hq; exact ⟨p, _, h1, h3, wh_lo s ps A h1⟩) hms.k hms.b hms.lt x) rfl (by simp [calleeS, evList]) ?_
    rintro y n3 m3 ⟨p1, p2, rfl, p3⟩
    simp [-getElem?_pos, z0, z1, z2]
    have hms3 := hms.pass s ps x
    obtain ⟨es3, hes3⟩ : ∃ es3, es3 = passL (whS s ps A) x es := ⟨_, rfl⟩
    obtain ⟨S3, hS3⟩ : ∃ S3 : Nat → Bool, S3 = fun p => S p && decide ((A p).1 ≤ x) := ⟨_, rfl⟩
    rw [← hes3, ← hS3] at hms3
    have hinv3 : MpInv A S3 x := fun p hp y y1 y2 hb => by
      have h1 := hinv p hp y y1 y2 hb
      rw [bearB_iff] at hb
      rw [hS3]
      simp only [h1, Bool.true_and, decide_eq_true_eq]
      omega
    have hrdy : ∀ p, p < 12 → rdyF A S3 x p = bearB A p x := fun p hp => by
      rw [Bool.eq_iff_iff, bearB_iff, rdyF, Bool.and_eq_true, decide_eq_true_eq]
      constructor
      · rintro ⟨h1, h2⟩
        rw [hS3] at h1
        simp only [Bool.and_eq_true, decide_eq_true_eq] at h1
        exact ⟨h1.2, h2⟩
      · rintro ⟨h1, h2⟩
        exact ⟨hinv3 p hp x (by omega) (Int.le_refl _) (bearB_iff.2 ⟨h1, h2⟩), h2⟩
    have hmp3 : m3 id = some (mapB mi es3 c) := by rw [p3 id (by omega), if_pos rfl, hes3]
    have hlow3 : ∀ j, j < n2 → j ≠ id → m3 j = t.mem j := fun j h1 h2 => (p3 j (by omega)).trans (if_neg h2)
    have hlow0 : ∀ j, j < n0 → m3 j = t.mem j := fun j hj => hlow3 j (by omega) (by omega)
    have ha3 := (hlow0 k0 l0).trans ha
    have hw3 : WhAt s ps A w m3 := (hlow0 w lw).trans hw
    repeat (first | (with_reducible first | refine AWi.seqK fun _ => ?_ | refine AWi.blockK fun _ => ?_ | refine KI.go ?_) | ((first | refine AWi.region tabOk ?_ | refine AWi.condK fun _ _ => ?_); simp [-getElem?_pos, z0, z1, z2, z0]) | ((first | refine AWi.ret ?_ | refine AWi.skip ?_ | refine AWi.exit ?_); try simp only [thenP]) | (with_reducible refine BB.go ?_; simp only [blockP, thenP, reduceIte]))
    refine AWi.drawsM mixedM 5 (by kernel_rfl) (by kernel_rfl) (by kernel_rfl) ?_
    simp only [List.take_succ_cons, List.take_zero]
    have o1 : id < n3 := by omega
    have o2 : k0 < n3 := by omega
    repeat (with_reducible refine ExecV.auto tabOk ?_; simp [-getElem?_pos, z0, z1, z2, kindV, isPure, t1, t5, t6, ha3, o1, o2]; try (refine And.intro (OkV_old (by simp; try omega) (by omega) (by simp [AllAcc])) ?_))
    have hrd : readyM (only m3 [id]) id x n3 id = m3 id := by
      show setMem (setMem (only m3 [id]) n3 _) (n3 + 1) _ id = _
      rw [setMem, if_neg (by omega), setMem, if_neg (by omega)]
      simp [only]
    refine ExecV.callP [id] (ready_n hmp3 hms3 x _ o1) (by omega) (fun i hi => by rw [List.mem_singleton] at hi; rw [hi]; exact ⟨by simp [hmp3], hrd⟩) rfl (by simp [calleeS, evList]) (OkV_old (by simp; omega) (by omega) (by simp [AllAcc])) ?_
    have o3 : ¬ (n3 ≤ k0 ∧ k0 < n3 + 1 + 1 + 1 + 1 + 1) := by omega
    repeat (with_reducible refine ExecV.auto tabOk ?_; simp [-getElem?_pos, z0, z1, z2, kindV, isPure, t1, t5, t6, ha3, o1, o2, o3]; try (refine And.intro (OkV_old (by simp; try omega) (by omega) (by simp [AllAcc])) ?_))
    have hit := ready1_w (A := A) (S := S3) x id n3 (n3 + 1)
    rw [show (rdyL A S3 x 12).map rdyV = (rdyZ A S3 x 12).map oneI by simp [rdyZ, rdyV, oneI, Function.comp]] at hit
    obtain ⟨m4, hm4⟩ : ∃ m4, m4 = putN m3 n3 (n3 + 1 + 1 + 1 + 1 + 1) (readyM (only m3 [id]) id x n3) := ⟨_, rfl⟩
    have hlow4 : ∀ j, j < n3 → m4 j = m3 j := fun j hj => by rw [hm4, putN, if_neg (by omega)]
    have hb4 : m4 n3 = some (.box 115 [.mp id] false) := by
      rw [hm4, putN, if_pos (by omega)]
      show setMem (setMem _ n3 _) (n3 + 1) _ n3 = _
      rw [setMem, if_neg (by omega), setMem, if_pos rfl]
    have hc4 : m4 (n3 + 1) = some (.box 2 [.d (iD x)] false) := by
      rw [hm4, putN, if_pos (by omega)]
      exact if_pos rfl
    have hw4 : WhAt s ps A w m4 := (hlow4 w (by omega)).trans hw3
    have hk4 : rdyK A S3 x id n3 (n3 + 1) m4 := ⟨⟨false, hb4⟩, ⟨false, hc4⟩, es3, c, hms3, (hlow4 id o1).trans hmp3⟩
    show ExecV _ _ _ _ _ [] _ _ _ _
    rw [← hm4]
    refine ⟨_, stepI_call (svs := [readyF n3, .fn 68 [.ptr w 0 0] []]) (by simp [calleeS, evList]) (leastBy_w hit (us := []) (vs := [.ptr n3 0 0, .ptr (n3 + 1) 0 0]) (fun Y => rfl) (.fn 68 [.ptr w 0 0] []) ⟨rfl, rfl⟩ (costA A) (n3 + 1 + 1 + 1 + 1 + 1) m4 hk4 (fun m1 m2 hm ⟨⟨a, q1⟩, ⟨b, q2⟩, es', c', q3, q4⟩ => ⟨⟨a, (hm _ (by omega)).trans q1⟩, ⟨b, (hm _ (by omega)).trans q2⟩, es', c', q3, (hm _ (by omega)).trans q4⟩) (fun b hb n' m' hn' hm' => ?_)), ?_⟩
    · obtain ⟨p, hp, rfl⟩ := List.mem_map.1 hb
      have hp12 : p < 12 := List.mem_range.1 (List.mem_filter.1 hp).1
      have hwm : m' w = some (.box 83 (whS s ps A) false) := (hm' w (by omega)).trans hw4
      refine YCall.fn ((least_w hwm (wh_lo s ps A hp12) hp12 n').mono ?_)
      rintro y n'' m'' ⟨u1, u2, rfl, rfl⟩
      exact ⟨u1, fun _ _ => rfl, by simp [costA]⟩
    rintro n5 s5 ⟨y, m5, ⟨q1, q2, rfl⟩, rfl⟩
    rw [least_pick hrdy]
    simp only [restO, List.drop_succ_cons, List.drop_zero, List.map_cons, List.map_nil, shiftO]
    have hlow5 : ∀ j, j < n3 → m5 j = m3 j := fun j hj => (q2 j (by omega)).trans (hlow4 j hj)
    have hmp5 : m5 id = some (mapB mi es3 c) := (hlow5 id o1).trans hmp3
    have hlow50 : ∀ j, j < n0 → m5 j = t.mem j := fun j hj => (hlow5 j (by omega)).trans (hlow0 j hj)
    have hkn := hkp.1
    have hkp5 : ∀ j, n0 ≤ j → j < n → m5 j = m j := fun j j1 j2 => ((hlow5 j (by omega)).trans (hlow3 j (by omega) (by omega))).trans (hkp.2 j j1 j2)
    have hi5 : I i m5 := hI _ _ _ hlow50 hi
    cases hp : pickR A x 12 with
    | none =>
      have hnil : runsR A 12 x down = [] := runs_gap hp
      simp only [pickS]
      repeat (with_reducible refine ExecV.auto tabOk ?_; simp [-getElem?_pos, z0, z1, z2, kindV, isPure, z0]; try (refine And.intro (OkV_old (by simp; try omega) (by omega) (by simp [AllAcc])) ?_))
      unfold ExecV
      simp only [thenP]
      repeat (first | (with_reducible first | refine AWi.seqK fun _ => ?_ | refine AWi.blockK fun _ => ?_ | refine KI.go ?_) | ((first | refine AWi.region tabOk ?_ | refine AWi.condK fun _ _ => ?_); simp [-getElem?_pos, z0, z1, z2, z0]) | ((first | refine AWi.ret ?_ | refine AWi.skip ?_ | refine AWi.exit ?_); try simp only [thenP]) | (with_reducible refine BB.go ?_; simp only [blockP, thenP, reduceIte]))
      exact RI.ret rfl ⟨⟨by omega, hkp5⟩, .inl (by rw [List.length_map, hL, hnil, List.append_nil, hLi]; exact hi5)⟩
    | some k =>
      have pk := pick_some hp
      have hk12 := pk.lt
      have hst := runs_step (down := down) (by omega : ¬ x < down) hp
      have hb1 := pk.at1
      have hb2 := hlo k hk12
      have hget : ((runsR A 12 x0 down).map runV)[i]? = some [.agg [.d (iD x), .d (iD k)]] := by
        rw [List.getElem?_map, hL, ← hLi, List.getElem?_append_right (Nat.le_refl _), Nat.sub_self, hst]
        rfl
      simp only [pickS]
      repeat (with_reducible refine ExecV.auto tabOk ?_; simp [-getElem?_pos, z0, z1, z2, kindV, isPure, z0]; try (refine And.intro (OkV_old (by simp; try omega) (by omega) (by simp [AllAcc])) ?_))
      unfold ExecV
      simp only [thenP]
      repeat (first | (with_reducible first | refine AWi.seqK fun _ => ?_ | refine AWi.blockK fun _ => ?_ | refine KI.go ?_) | ((first | refine AWi.region tabOk ?_ | refine AWi.condK fun _ _ => ?_); simp [-getElem?_pos, z0, z1, z2, t0, t1, t6]) | ((first | refine AWi.ret ?_ | refine AWi.skip ?_ | refine AWi.exit ?_); try simp only [thenP]) | (with_reducible refine BB.go ?_; simp only [blockP, thenP, reduceIte]))
      refine ExecI.callY (Y := Y) (xs := [.agg [.d (iD x), .d (iD k)]]) (hy _ _ _ _ hget (by omega) hi5) (by simp [-getElem?_pos, z0, z1, z2]) (by simp [calleeV, evList]) ?_
      rintro y n6 m6 ⟨hk6, ⟨rfl, h⟩ | ⟨rfl, h⟩⟩
      · have hmp6 := (hk6.2 id (by omega) (by omega)).trans hmp5
        obtain ⟨hw6, ⟨zd, hd6⟩, -, -⟩ := hk _ _ h
        have hw6' : m6 w = some (.box 83 (whS s ps A) false) := hw6
        have w1 : IntKind.i64.wrap ((A k).1 - 1) = (A k).1 - 1 := wrap64_in (by omega)
        have h61 := hk6.1
        simp [-getElem?_pos, z0, z1, z2]
        repeat (first | (with_reducible first | refine AWi.seqK fun _ => ?_ | refine AWi.blockK fun _ => ?_ | refine KI.go ?_) | ((first | refine AWi.region tabOk ?_ | refine AWi.condK fun _ _ => ?_); simp [-getElem?_pos, z0, z1, z2, t1, hd6]) | ((first | refine AWi.ret ?_ | refine AWi.skip ?_ | refine AWi.exit ?_); try simp only [thenP]) | (with_reducible refine BB.go ?_; simp only [blockP, thenP, reduceIte]))
        refine ExecI.callC (least_w hw6' (wh_lo s ps A hk12) hk12 _) rfl (by simp [calleeS, evList]) ?_
        rintro y n7 m7 ⟨u1, u2, rfl, rfl⟩
        simp [-getElem?_pos, z0, z1, z2]
        repeat (first | (with_reducible first | refine AWi.seqK fun _ => ?_ | refine AWi.blockK fun _ => ?_ | refine KI.go ?_) | ((first | refine AWi.region tabOk ?_ | refine AWi.condK fun _ _ => ?_); simp [-getElem?_pos, z0, z1, z2, w1]) | ((first | refine AWi.ret ?_ | refine AWi.skip ?_ | refine AWi.exit ?_); try simp only [thenP]) | (with_reducible refine BB.go ?_; simp only [blockP, thenP, reduceIte]))
        refine LI.go ((A k).1 - 1, i + 1) ⟨⟨by omega, fun j j1 j2 => (hk6.2 j j1 (by omega)).trans (hkp5 j j1 j2)⟩, h, by simp [t0], by simp [t1], by simp [t2], by simp [t3], by simp [t5], by simp [iD, w1], by omega, by simp only; omega, ⟨L ++ [(x, k)], by rw [hL, hst]; simp, by simp [hLi]⟩, S3, es3, c, hmp6, hms3, fun p hp y y1 y2 hb => hinv3 p hp y y1 (by simp only at y2; omega) hb⟩ (by simp only; omega)
      · simp [-getElem?_pos, z0, z1, z2]
        repeat (first | (with_reducible first | refine AWi.seqK fun _ => ?_ | refine AWi.blockK fun _ => ?_ | refine KI.go ?_) | ((first | refine AWi.region tabOk ?_ | refine AWi.condK fun _ _ => ?_); simp [-getElem?_pos, z0, z1, z2, z0]) | ((first | refine AWi.ret ?_ | refine AWi.skip ?_ | refine AWi.exit ?_); try simp only [thenP]) | (with_reducible refine BB.go ?_; simp only [blockP, thenP, reduceIte]))
        have h61 := hk6.1
        exact RI.ret rfl ⟨⟨by omega, fun j j1 j2 => (hk6.2 j j1 (by omega)).trans (hkp5 j j1 j2)⟩, .inr h⟩
  · have hnil : runsR A 12 x down = [] := runs_stop (by omega)
    repeat (first | (with_reducible first | refine AWi.seqK fun _ => ?_ | refine AWi.blockK fun _ => ?_ | refine KI.go ?_) | ((first | refine AWi.region tabOk ?_ | refine AWi.condK fun _ _ => ?_); simp [-getElem?_pos, z0, z1, z2, t3, t6, hc, hlt]) | ((first | refine AWi.ret ?_ | refine AWi.skip ?_ | refine AWi.exit ?_); try simp only [thenP]) | (with_reducible refine BB.go ?_; simp only [blockP, thenP, reduceIte]))
    exact RI.normal rfl ⟨hkp.trans (Keeps.more (by omega)), .inl (by rw [List.length_map, hL, hnil, List.append_nil, hLi]; exact hi)⟩
end Go.Proofs.Ytdkneonokbakjaa.Eng

noncomputable section
namespace Go.Proofs.Ytdkneonokbakjaa.Eng
open Go.RowKit
variable {P : Program} {T : Tab} {Z : ZTab} {Q : QTab} {M : MTab} {K : Known}
def chkV (P : Program) (T : Tab) (Z : ZTab) (Q : QTab) (M : MTab) (K : Known) (fuel : Nat) (f : FuncId) (v : Value) : Bool := match callFn P T (runR P T Z Q M K fuel) f [] 0 .lf with
  | some q => same1 q.y (.d (.val v))
  | none => false
theorem chkV_ok {fuel : Nat} {f : FuncId} {v : Value} (h : chkV P T Z Q M K fuel f v = true) : (callFn P T (runR P T Z Q M K fuel) f [] 0 .lf).map (·.y) = some (.d (.val v)) := by
  unfold chkV at h
  split at h
  · rename_i q hq
    rw [hq, Option.map_some, same1_eq h]
  · cases h
end Go.Proofs.Ytdkneonokbakjaa.Eng

noncomputable section
namespace Go.Proofs.Ytdkneonokbakjaa.Eng
open Go.RowKit
set_option maxRecDepth 100000
def goodE (cells : List SV) (q : List Int × SV × Nat) : Bool := match q.1 with
  | [.ofNat k] => Nat.ble (k + 1) 12 && (match cells[6 + k * 2]? with
    | some (.d (.val (.int .i64 _))) => true
    | _ => false)
  | _ => false
def okEs2 (cells : List SV) (es : List (List Int × SV × Nat)) (clock : Nat) : Bool := es.all (fun q => goodE cells q && Nat.ble (q.2.2 + 1) clock) && decide (es.map (·.1)).Nodup && decide (es.map (·.2.2)).Nodup
def passSum (args : List SV) (n : Nat) (m : Tr CB) : Option Rs := match args with
  | [.ptr wid 0 0, .mp id, .d (.val (.int .i64 len))] => match m.get wid, m.get id with
    | some (.bx none ty N d t f), some (.mp false [.i64] es clock) => match Nat.beq ty 83 && Nat.ble id 10000000 && okEs2 (cellsOf N d t 0) es clock with
      | true => some ⟨.tup [], n + 20 + 60 * es.length, putM m id (some (.mp false [.i64] (passL (cellsOf N d t 0) len es) clock))⟩
      | false => none
    | _, _ => none
  | _ => none
theorem goodE_spec {cells : List SV} {q : List Int × SV × Nat} (h : goodE cells q = true) : ∃ (p : Nat) (lo : Int), p < 12 ∧ q.1 = [(p : Int)] ∧ cells[6 + p * 2]? = some (.d (iD lo)) := by
  unfold goodE at h
  split at h
  · rename_i k hq
    rw [Bool.and_eq_true] at h
    obtain ⟨h1, h2⟩ := h
    split at h2
    · rename_i lo hc
      exact ⟨k, lo, by have := Nat.le_of_ble_eq_true h1; omega, hq, hc⟩
    · cases h2
  · cases h
theorem pass_callable : Callable Try.prog 79 :=
  (pass_w (m := fun j => if j = 0 then some (.box 83 [] false) else if j = 1 then some (mapB mi [] 0) else none) (wid := 0) (id := 1) (clock := 0) (cells := []) (f := false) (es := []) (by simp) (by simp) (by decide) (n := 2) (by decide) (by decide) (by simp) (by simp) (by simp) (by simp) 0).callable
theorem passSum_ok {args : List SV} {n : Nat} {m : Tr CB} {q : Rs} (h : passSum args n m = some q) : Calls2 Try.prog 79 args n m q := by
  unfold passSum at h
  split at h
  · rename_i wid id len
    split at h
    · rename_i ty N d t f es clock h1 h2
      split at h
      · rename_i hc
        cases h
        simp only [Bool.and_eq_true, Nat.beq_eq, okEs2, List.all_eq_true, decide_eq_true_eq] at hc
        obtain ⟨⟨rfl, hid⟩, ⟨hall, hn1⟩, hn2⟩ := hc
        have hm1 : mOf m wid = some (.box 83 (cellsOf N d t 0) f) := mOf_get h1
        have hm2 : mOf m id = some (mapB mi es clock) := mOf_get h2
        have hne : wid ≠ id := fun e => by rw [e, h2] at h1; cases h1
        refine ⟨⟨pass_callable, fun W0 R0 E w vs M hs hr => ?_⟩, by show n ≤ n + 20 + 60 * es.length; omega, Recs.put (lt_deep hid) fun st pe k sl ps x y e => by rw [h2] at e; cases e⟩
        have hlt : ∀ i b, mOf m i = some b → i < n := fun i b hi => M.dom i (M.live i b hi)
        have H := pass_w hm1 hm2 hne (hlt _ _ hm1) (hlt _ _ hm2) (fun q hq => goodE_spec (hall q hq).1) hn1 hn2 (fun q hq => by have := Nat.le_of_ble_eq_true (hall q hq).2; omega) len
        refine (H.calls W0 R0 E w vs M hs hr).mono ?_
        rintro e w' ⟨v, E', n', m', y, rfl, M2, hE, hk, hv, k1, k2, rfl, k4⟩
        have hm : ∀ i b, mOf (putM m id (some (.mp false [.i64] (passL (cellsOf N d t 0) len es) clock))) i = some b → m' i = some b := fun i b hb => by
          rw [mOf_put (lt_deep hid)] at hb
          unfold setMem at hb
          split at hb
          · rename_i e
            subst e
            rw [k4 i (hlt _ _ hm2), if_pos rfl]
            exact hb
          · rename_i e
            rw [k4 i (hlt _ _ hb), if_neg e]
            exact hb
        exact ⟨v, E', _, _, _, rfl, ⟨M2.below, M2.ro0, M2.ro1, M2.rlt, fun i hi => Nat.lt_of_lt_of_le (M2.dom i hi) k2, fun i b hi => M2.live i b (hm i b hi), fun i b hi => M2.mem i b (hm i b hi), fun i b hi => M2.base i b (hm i b hi), fun i b hi => M2.frz i b (hm i b hi), fun i j b c hi hj hne => M2.inj i j b c (hm i b hi) (hm j c hj) hne⟩, hE, hk, hv, rfl, rfl, rfl⟩
      · cases h
    · cases h
  · cases h
def SMS : Sums := fun f => match Nat.beq f 79 with
  | true => some passSum
  | false => none
theorem smsOk : SumsOk Try.prog SMS := fun f g h args n m q hq => by
  unfold SMS at h
  split at h
  · rename_i e
    cases h
    rw [Nat.beq_eq] at e
    subst e
    exact passSum_ok hq
  · cases h
end Go.Proofs.Ytdkneonokbakjaa.Eng

namespace Go.Proofs.Ytdkneonokbakjaa.Eng
open Go.RowKit
set_option maxRecDepth 100000
def ra1 : Ent := ⟨18, [(.agg [(.d (.val (.int .i64 3000))), (.d (.val (.int .i64 1500))), (.d (.val (.int .i64 10))), (.d (.val (.int .i64 540000))), (.d (.val (.int .i64 720000)))]), (.sl 4 0 5 (some 5)), (.d (.val (.int .i64 1)))], 7, (.nd none .lf (.nd none (.nd (some (.bx none 2 5 [(.d (.val (.int .i64 200))), (.d (.val (.int .i64 250))), (.d (.val (.int .i64 260))), (.d (.val (.int .i64 300))), (.d (.val (.int .i64 390)))] .lf false)) .lf .lf) .lf)), ⟨(.tup [(.agg [(.d (.val (.int .i64 2170))), (.d (.val (.int .i64 2870)))]), (.d (.val (.int .i64 0)))]), 46, (.nd none .lf (.nd none (.nd (some (.bx none 2 5 [(.d (.val (.int .i64 200))), (.d (.val (.int .i64 250))), (.d (.val (.int .i64 260))), (.d (.val (.int .i64 300))), (.d (.val (.int .i64 390)))] .lf false)) .lf .lf) .lf))⟩⟩
theorem ra1_ok : Calls2 Try.prog ra1.f ra1.args ra1.n ra1.m ra1.q := chk_ok (fuel := 600) tabOk ztOk qtOk mtOk (known_sums smsOk) noGor mixed (by decide +kernel)
end Go.Proofs.Ytdkneonokbakjaa.Eng

namespace Go.Proofs.Ytdkneonokbakjaa.Eng
open Go.RowKit
set_option maxRecDepth 100000
def ra2 : Ent := ⟨20, [(.agg [(.d (.val (.int .i64 3000))), (.d (.val (.int .i64 1500))), (.d (.val (.int .i64 10))), (.d (.val (.int .i64 540000))), (.d (.val (.int .i64 720000)))]), (.sl 4 0 5 (some 5))], 48, (.nd none .lf (.nd none (.nd (some (.bx none 2 5 [(.d (.val (.int .i64 200))), (.d (.val (.int .i64 250))), (.d (.val (.int .i64 260))), (.d (.val (.int .i64 300))), (.d (.val (.int .i64 390)))] .lf false)) .lf .lf) .lf)), ⟨(.tup [(.d (.val (.int .i64 0))), (.d (.val (.int .i64 5)))]), 143, (.nd none .lf (.nd none (.nd (some (.bx none 2 5 [(.d (.val (.int .i64 200))), (.d (.val (.int .i64 250))), (.d (.val (.int .i64 260))), (.d (.val (.int .i64 300))), (.d (.val (.int .i64 390)))] .lf false)) .lf .lf) .lf))⟩⟩
theorem ra2_ok : Calls2 Try.prog ra2.f ra2.args ra2.n ra2.m ra2.q := chk_ok (fuel := 600) tabOk ztOk qtOk mtOk (known_sums smsOk) noGor mixed (by decide +kernel)
end Go.Proofs.Ytdkneonokbakjaa.Eng

namespace Go.Proofs.Ytdkneonokbakjaa.Eng
open Go.RowKit
set_option maxRecDepth 100000
def ra3 : Ent := ⟨20, [(.agg [(.d (.val (.int .i64 3000))), (.d (.val (.int .i64 1500))), (.d (.val (.int .i64 10))), (.d (.val (.int .i64 540000))), (.d (.val (.int .i64 720000)))]), (.sl 143 0 5 (some 5))], 144, (.nd none (.nd none (.nd none (.nd none (.nd none .lf (.nd none (.nd none (.nd (some (.bx none 2 5 [(.d (.val (.int .i64 200))), (.d (.val (.int .i64 250))), (.d (.val (.int .i64 260))), (.d (.val (.int .i64 300))), (.d (.val (.int .i64 400)))] .lf false)) .lf .lf) .lf) .lf)) .lf) .lf) .lf) .lf), ⟨(.tup [(.d (.val (.int .i64 1809))), (.d (.val (.int .i64 0)))]), 267, (.nd none (.nd none (.nd none (.nd none (.nd none .lf (.nd none (.nd none (.nd (some (.bx none 2 5 [(.d (.val (.int .i64 200))), (.d (.val (.int .i64 250))), (.d (.val (.int .i64 260))), (.d (.val (.int .i64 300))), (.d (.val (.int .i64 400)))] .lf false)) .lf .lf) .lf) .lf)) .lf) .lf) .lf) .lf)⟩⟩
theorem ra3_ok : Calls2 Try.prog ra3.f ra3.args ra3.n ra3.m ra3.q := chk_ok (fuel := 600) tabOk ztOk qtOk mtOk (known_sums smsOk) noGor mixed (by decide +kernel)
end Go.Proofs.Ytdkneonokbakjaa.Eng

namespace Go.Proofs.Ytdkneonokbakjaa.Eng
open Go.RowKit
set_option maxRecDepth 100000
def ra4 : Ent := ⟨28, [(.agg [(.d (.val (.int .i64 3000))), (.d (.val (.int .i64 1500))), (.d (.val (.int .i64 10))), (.d (.val (.int .i64 540000))), (.d (.val (.int .i64 720000)))]), (.sl 4 0 5 (some 5))], 267, (.nd none .lf (.nd none (.nd (some (.bx none 2 5 [(.d (.val (.int .i64 200))), (.d (.val (.int .i64 250))), (.d (.val (.int .i64 260))), (.d (.val (.int .i64 300))), (.d (.val (.int .i64 390)))] .lf false)) .lf .lf) .lf)), ⟨(.tup [(.sl 1509 0 4 (some 4)), (.d (.val (.int .i64 0)))]), 1511, (.nd none (.nd none .lf (.nd none .lf (.nd none (.nd none (.nd none .lf (.nd none .lf (.nd none .lf (.nd none .lf (.nd none (.nd (some (.bx none 59 8 [(.d (.val (.int .i64 0))), (.d (.val (.int .i64 0)))] (.nd (some (.d (.val (.int .i64 3000)))) (.nd (some (.d (.val (.int .i64 0)))) (.nd (some (.d (.val (.int .i64 2)))) (.nd (some (.d (.val (.int .i64 4)))) .lf .lf) .lf) (.nd (some (.d (.val (.int .i64 3)))) .lf .lf)) (.nd (some (.d (.val (.int .i64 2709)))) (.nd (some (.d (.val (.int .i64 2086)))) .lf .lf) (.nd (some (.d (.val (.int .i64 1809)))) .lf .lf))) false)) .lf .lf) .lf))))) .lf) .lf))) (.nd none (.nd (some (.bx none 2 5 [(.d (.val (.int .i64 200))), (.d (.val (.int .i64 250))), (.d (.val (.int .i64 260))), (.d (.val (.int .i64 300))), (.d (.val (.int .i64 390)))] .lf false)) .lf .lf) .lf))⟩⟩
theorem ra4_ok : Calls2 Try.prog ra4.f ra4.args ra4.n ra4.m ra4.q := chk_ok (fuel := 600) tabOk ztOk qtOk mtOk (known_sums smsOk) noGor mixed (by decide +kernel)
end Go.Proofs.Ytdkneonokbakjaa.Eng

namespace Go.Proofs.Ytdkneonokbakjaa.Eng
open Go.RowKit
set_option maxRecDepth 100000
def ra5 : Ent := ⟨24, [(.agg [(.d (.val (.int .i64 3000))), (.d (.val (.int .i64 1500))), (.d (.val (.int .i64 10))), (.d (.val (.int .i64 540000))), (.d (.val (.int .i64 720000)))]), (.sl 4 0 5 (some 5)), (.sl 1509 0 4 (some 4))], 1511, (.nd none (.nd none .lf (.nd none .lf (.nd none (.nd none (.nd none .lf (.nd none .lf (.nd none .lf (.nd none .lf (.nd none (.nd (some (.bx none 59 8 [(.d (.val (.int .i64 0))), (.d (.val (.int .i64 0)))] (.nd (some (.d (.val (.int .i64 3000)))) (.nd (some (.d (.val (.int .i64 0)))) (.nd (some (.d (.val (.int .i64 2)))) (.nd (some (.d (.val (.int .i64 4)))) .lf .lf) .lf) (.nd (some (.d (.val (.int .i64 3)))) .lf .lf)) (.nd (some (.d (.val (.int .i64 2709)))) (.nd (some (.d (.val (.int .i64 2086)))) .lf .lf) (.nd (some (.d (.val (.int .i64 1809)))) .lf .lf))) false)) .lf .lf) .lf))))) .lf) .lf))) (.nd none (.nd (some (.bx none 2 5 [(.d (.val (.int .i64 200))), (.d (.val (.int .i64 250))), (.d (.val (.int .i64 260))), (.d (.val (.int .i64 300))), (.d (.val (.int .i64 390)))] .lf false)) .lf .lf) .lf)), ⟨(.tup [(.agg [(.d (.val (.int .i64 540000))), (.d (.val (.int .i64 709410)))]), (.d (.val (.int .i64 0)))]), 1647, (.nd none (.nd none .lf (.nd none .lf (.nd none (.nd none (.nd none .lf (.nd none .lf (.nd none .lf (.nd none .lf (.nd none (.nd (some (.bx none 59 8 [(.d (.val (.int .i64 0))), (.d (.val (.int .i64 0)))] (.nd (some (.d (.val (.int .i64 3000)))) (.nd (some (.d (.val (.int .i64 0)))) (.nd (some (.d (.val (.int .i64 2)))) (.nd (some (.d (.val (.int .i64 4)))) .lf .lf) .lf) (.nd (some (.d (.val (.int .i64 3)))) .lf .lf)) (.nd (some (.d (.val (.int .i64 2709)))) (.nd (some (.d (.val (.int .i64 2086)))) .lf .lf) (.nd (some (.d (.val (.int .i64 1809)))) .lf .lf))) false)) .lf .lf) .lf))))) .lf) .lf))) (.nd none (.nd (some (.bx none 2 5 [(.d (.val (.int .i64 200))), (.d (.val (.int .i64 250))), (.d (.val (.int .i64 260))), (.d (.val (.int .i64 300))), (.d (.val (.int .i64 390)))] .lf false)) .lf .lf) .lf))⟩⟩
theorem ra5_ok : Calls2 Try.prog ra5.f ra5.args ra5.n ra5.m ra5.q := chk_ok (fuel := 600) tabOk ztOk qtOk mtOk (known_sums smsOk) noGor mixed (by decide +kernel)
end Go.Proofs.Ytdkneonokbakjaa.Eng

namespace Go.Proofs.Ytdkneonokbakjaa.Eng
open Go.RowKit
set_option maxRecDepth 100000
def ra6 : Ent := ⟨26, [(.agg [(.d (.val (.int .i64 3000))), (.d (.val (.int .i64 1500))), (.d (.val (.int .i64 10))), (.d (.val (.int .i64 540000))), (.d (.val (.int .i64 720000)))]), (.sl 4 0 5 (some 5)), (.sl 1657 0 4 (some 4))], 1658, (.nd none (.nd none .lf (.nd none (.nd none .lf (.nd none .lf (.nd none .lf (.nd none .lf (.nd none (.nd none (.nd none .lf (.nd (some (.bx none 59 8 [(.d (.val (.int .i64 3000))), (.d (.val (.int .i64 0))), (.d (.val (.int .i64 2800))), (.d (.val (.int .i64 1))), (.d (.val (.int .i64 2100))), (.d (.val (.int .i64 3))), (.d (.val (.int .i64 1836))), (.d (.val (.int .i64 4)))] .lf false)) .lf .lf)) .lf) .lf))))) .lf)) (.nd none (.nd (some (.bx none 2 5 [(.d (.val (.int .i64 200))), (.d (.val (.int .i64 250))), (.d (.val (.int .i64 260))), (.d (.val (.int .i64 300))), (.d (.val (.int .i64 390)))] .lf false)) .lf .lf) .lf)), ⟨(.d (.val (.int .i64 19))), 1746, (.nd none (.nd none .lf (.nd none (.nd none .lf (.nd none .lf (.nd none .lf (.nd none .lf (.nd none (.nd none (.nd none .lf (.nd (some (.bx none 59 8 [(.d (.val (.int .i64 3000))), (.d (.val (.int .i64 0))), (.d (.val (.int .i64 2800))), (.d (.val (.int .i64 1))), (.d (.val (.int .i64 2100))), (.d (.val (.int .i64 3))), (.d (.val (.int .i64 1836))), (.d (.val (.int .i64 4)))] .lf false)) .lf .lf)) .lf) .lf))))) .lf)) (.nd none (.nd (some (.bx none 2 5 [(.d (.val (.int .i64 200))), (.d (.val (.int .i64 250))), (.d (.val (.int .i64 260))), (.d (.val (.int .i64 300))), (.d (.val (.int .i64 390)))] .lf false)) .lf .lf) .lf))⟩⟩
theorem ra6_ok : Calls2 Try.prog ra6.f ra6.args ra6.n ra6.m ra6.q := chk_ok (fuel := 600) tabOk ztOk qtOk mtOk (known_sums smsOk) noGor mixed (by decide +kernel)
end Go.Proofs.Ytdkneonokbakjaa.Eng

namespace Go.Proofs.Ytdkneonokbakjaa.Eng
open Go.RowKit
set_option maxRecDepth 100000
def ra7 : Ent := ⟨30, [(.agg [(.d (.val (.int .i64 3000))), (.d (.val (.int .i64 1500))), (.d (.val (.int .i64 10))), (.d (.val (.int .i64 540000))), (.d (.val (.int .i64 720000)))]), (.sl 4 0 5 (some 5))], 1746, (.nd none .lf (.nd none (.nd (some (.bx none 2 5 [(.d (.val (.int .i64 200))), (.d (.val (.int .i64 250))), (.d (.val (.int .i64 260))), (.d (.val (.int .i64 300))), (.d (.val (.int .i64 390)))] .lf false)) .lf .lf) .lf)), ⟨(.tup [(.sl 3007 0 4 (some 4)), (.d (.val (.int .i64 0)))]), 3009, (.nd none (.nd none (.nd none (.nd none (.nd none (.nd none (.nd none .lf (.nd none .lf (.nd none .lf (.nd none .lf (.nd none (.nd (some (.bx none 2 4 [(.d (.val (.int .i64 0)))] (.nd (some (.d (.val (.int .i64 3000)))) (.nd (some (.d (.val (.int .i64 2709)))) (.nd (some (.d (.val (.int .i64 1809)))) .lf .lf) .lf) (.nd (some (.d (.val (.int .i64 2086)))) .lf .lf)) false)) .lf .lf) .lf))))) .lf) .lf) .lf) .lf) .lf) (.nd none (.nd (some (.bx none 2 5 [(.d (.val (.int .i64 200))), (.d (.val (.int .i64 250))), (.d (.val (.int .i64 260))), (.d (.val (.int .i64 300))), (.d (.val (.int .i64 390)))] .lf false)) .lf .lf) .lf))⟩⟩
theorem ra7_ok : Calls2 Try.prog ra7.f ra7.args ra7.n ra7.m ra7.q := chk_ok (fuel := 600) tabOk ztOk qtOk mtOk (known_sums smsOk) noGor mixed (by decide +kernel)
end Go.Proofs.Ytdkneonokbakjaa.Eng

namespace Go.Proofs.Ytdkneonokbakjaa.Eng
open Go.RowKit
set_option maxRecDepth 100000
def ra8 : Ent := ⟨34, [(.agg [(.d (.val (.int .i64 3000))), (.d (.val (.int .i64 1500))), (.d (.val (.int .i64 10))), (.d (.val (.int .i64 540000))), (.d (.val (.int .i64 720000)))]), (.sl 4 0 5 (some 5)), (.sl 3009 0 3 (some 3))], 3010, (.nd none (.nd none .lf (.nd none (.nd none (.nd none (.nd none (.nd none .lf (.nd none .lf (.nd none .lf (.nd none .lf (.nd none (.nd (some (.bx none 2 3 [(.d (.val (.int .i64 3000))), (.d (.val (.int .i64 2800))), (.d (.val (.int .i64 2000)))] .lf false)) .lf .lf) .lf))))) .lf) .lf) .lf) .lf)) (.nd none (.nd (some (.bx none 2 5 [(.d (.val (.int .i64 200))), (.d (.val (.int .i64 250))), (.d (.val (.int .i64 260))), (.d (.val (.int .i64 300))), (.d (.val (.int .i64 390)))] .lf false)) .lf .lf) .lf)), ⟨(.d (.val (.int .i64 14))), 3061, (.nd none (.nd none .lf (.nd none (.nd none (.nd none (.nd none (.nd none .lf (.nd none .lf (.nd none .lf (.nd none .lf (.nd none (.nd (some (.bx none 2 3 [(.d (.val (.int .i64 3000))), (.d (.val (.int .i64 2800))), (.d (.val (.int .i64 2000)))] .lf false)) .lf .lf) .lf))))) .lf) .lf) .lf) .lf)) (.nd none (.nd (some (.bx none 2 5 [(.d (.val (.int .i64 200))), (.d (.val (.int .i64 250))), (.d (.val (.int .i64 260))), (.d (.val (.int .i64 300))), (.d (.val (.int .i64 390)))] .lf false)) .lf .lf) .lf))⟩⟩
theorem ra8_ok : Calls2 Try.prog ra8.f ra8.args ra8.n ra8.m ra8.q := chk_ok (fuel := 600) tabOk ztOk qtOk mtOk (known_sums smsOk) noGor mixed (by decide +kernel)
end Go.Proofs.Ytdkneonokbakjaa.Eng

namespace Go.Proofs.Ytdkneonokbakjaa.Eng
open Go.RowKit
set_option maxRecDepth 100000
def ra9 : Ent := ⟨36, [(.agg [(.d (.val (.int .i64 3000))), (.d (.val (.int .i64 1500))), (.d (.val (.int .i64 10))), (.d (.val (.int .i64 540000))), (.d (.val (.int .i64 720000)))]), (.sl 4 0 5 (some 5)), (.d (.val (.int .i64 2)))], 3061, (.nd none .lf (.nd none (.nd (some (.bx none 2 5 [(.d (.val (.int .i64 200))), (.d (.val (.int .i64 250))), (.d (.val (.int .i64 260))), (.d (.val (.int .i64 300))), (.d (.val (.int .i64 390)))] .lf false)) .lf .lf) .lf)), ⟨(.tup [(.d (.val (.int .i64 2087))), (.d (.val (.int .i64 0)))]), 4083, (.nd none .lf (.nd none (.nd (some (.bx none 2 5 [(.d (.val (.int .i64 200))), (.d (.val (.int .i64 250))), (.d (.val (.int .i64 260))), (.d (.val (.int .i64 300))), (.d (.val (.int .i64 390)))] .lf false)) .lf .lf) .lf))⟩⟩
theorem ra9_ok : Calls2 Try.prog ra9.f ra9.args ra9.n ra9.m ra9.q := chk_ok (fuel := 600) tabOk ztOk qtOk mtOk (known_sums smsOk) noGor mixed (by decide +kernel)
end Go.Proofs.Ytdkneonokbakjaa.Eng

namespace Go.Proofs.Ytdkneonokbakjaa.Eng
open Go.RowKit
set_option maxRecDepth 100000
def ra10 : Ent := ⟨38, [(.agg [(.d (.val (.int .i64 3000))), (.d (.val (.int .i64 1500))), (.d (.val (.int .i64 10))), (.d (.val (.int .i64 540000))), (.d (.val (.int .i64 720000)))]), (.sl 4 0 5 (some 5))], 4083, (.nd none .lf (.nd none (.nd (some (.bx none 2 5 [(.d (.val (.int .i64 200))), (.d (.val (.int .i64 250))), (.d (.val (.int .i64 260))), (.d (.val (.int .i64 300))), (.d (.val (.int .i64 390)))] .lf false)) .lf .lf) .lf)), ⟨(.tup [(.sl 14333 0 5 (some 5)), (.d (.val (.int .i64 0)))]), 14335, (.nd none (.nd none .lf (.nd none .lf (.nd none .lf (.nd none .lf (.nd none .lf (.nd none .lf (.nd none .lf (.nd none .lf (.nd none .lf (.nd none .lf (.nd none (.nd none .lf (.nd (some (.bx none 3 5 [(.d (.val (.int .i64 0)))] (.nd (some (.d (.val (.int .i64 2)))) (.nd (some (.d (.val (.int .i64 1)))) (.nd (some (.d (.val (.int .i64 2)))) .lf .lf) .lf) (.nd (some (.d (.val (.int .i64 1)))) (.nd (some (.d (.val (.int .i64 2)))) .lf .lf) .lf)) false)) .lf .lf)) .lf))))))))))) (.nd none (.nd (some (.bx none 2 5 [(.d (.val (.int .i64 200))), (.d (.val (.int .i64 250))), (.d (.val (.int .i64 260))), (.d (.val (.int .i64 300))), (.d (.val (.int .i64 390)))] .lf false)) .lf .lf) .lf))⟩⟩
theorem ra10_ok : Calls2 Try.prog ra10.f ra10.args ra10.n ra10.m ra10.q := chk_ok (fuel := 600) tabOk ztOk qtOk mtOk (known_sums smsOk) noGor mixed (by decide +kernel)
end Go.Proofs.Ytdkneonokbakjaa.Eng

noncomputable section
namespace Go.Proofs.Ytdkneonokbakjaa.Eng
open Go.RowKit
set_option maxRecDepth 100000
def raK : Known := ⟨[ra1, ra2, ra3, ra4, ra5, ra6, ra7, ra8, ra9, ra10], [], SMS⟩
theorem raK_ok : KnownOk Try.prog raK := (known_ent ra1_ok (known_ent ra2_ok (known_ent ra3_ok (known_ent ra4_ok (known_ent ra5_ok (known_ent ra6_ok (known_ent ra7_ok (known_ent ra8_ok (known_ent ra9_ok (known_ent ra10_ok (known_sums smsOk)))))))))))
theorem works_call : ACall Try.prog 17 [] (.val (.bool true)) := closed_call (n := 600) tabOk ztOk qtOk mtOk raK_ok noGor mixed (chkV_ok (by decide +kernel))
end Go.Proofs.Ytdkneonokbakjaa.Eng

noncomputable section
namespace Go.Proofs.Ytdkneonokbakjaa.Eng
open Go.RowKit
set_option maxRecDepth 100000
set_option maxHeartbeats 16000000
theorem many_c (ps : List Int) : ACall Try.prog 16 [intL ps] (bD (decide (20 < ps.length))) := by
  by_cases h : 20 < ps.length
  · have hi : (20 : Int) < ps.length := by omega
    rw [decide_eq_true h]
    refine acallK tabOk Try.func16 rfl rfl (show 1 ≤ _ by decide) rfl fun _ => ?_; simp only [Try.ntmps16]
    repeat (first | (with_reducible first | refine zq1 fun _ => ?_ | refine zq2 fun _ => ?_ | refine zq3 ?_) | ((first | refine zq4 ?_ | refine zq5 fun _ _ => ?_ | refine zq6 ?_); simp [-getElem?_pos, z0, z1, z2, h, hi]) | ((first | refine AWp.ret ?_ | refine AWp.skip ?_ | refine AWp.exit ?_); try simp only [thenP]) | (with_reducible refine zq7 ?_; simp only [blockP, thenP, reduceIte]) | with_reducible refine zq8 ?_)
    (first | refine RR.ret ?_ | refine RR.normal ?_); simp [z0]
  · have hi : ¬ (20 : Int) < ps.length := by omega
    rw [decide_eq_false h]
    refine acallK tabOk Try.func16 rfl rfl (show 1 ≤ _ by decide) rfl fun _ => ?_; simp only [Try.ntmps16]
    repeat (first | (with_reducible first | refine zq1 fun _ => ?_ | refine zq2 fun _ => ?_ | refine zq3 ?_) | ((first | refine zq4 ?_ | refine zq5 fun _ _ => ?_ | refine zq6 ?_); simp [-getElem?_pos, z0, z1, z2, h, hi]) | ((first | refine AWp.ret ?_ | refine AWp.skip ?_ | refine AWp.exit ?_); try simp only [thenP]) | (with_reducible refine zq7 ?_; simp only [blockP, thenP, reduceIte]) | with_reducible refine zq8 ?_)
    (first | refine RR.ret ?_ | refine RR.normal ?_); simp [z0]
end Go.Proofs.Ytdkneonokbakjaa.Eng

noncomputable section
namespace Go.Proofs.Ytdkneonokbakjaa.Eng
open Go.RowKit
set_option maxRecDepth 100000
set_option maxHeartbeats 8000000
theorem pick_more {A : Rgs} {x : Int} {n : Nat} : ∀ {N : Nat}, n ≤ N → (∀ j, n ≤ j → j < N → bearB A j x = false) → pickR A x N = pickR A x n
  | 0, h, _ => by rw [show n = 0 by omega]
  | N + 1, h, hno => by
    by_cases e : n = N + 1
    · rw [e]
    · have ih := pick_more (A := A) (x := x) (n := n) (N := N) (by omega) fun j h1 h2 => hno j h1 (by omega)
      have hb := hno N (by omega) (by omega)
      rw [pickR, ih, hb]
      cases pickR A x n with
      | none => rfl
      | some j => simp only [Bool.false_eq_true, false_and, if_false]
theorem runs_same {A : Rgs} {n N : Nat} {down : Int} (h : ∀ x, down ≤ x → pickR A x N = pickR A x n) (x : Int) : runsR A N x down = runsR A n x down := by
  refine runs_ind (A := A) (n := n) (down := down) (C := fun x => runsR A N x down = runsR A n x down) ?_ ?_ ?_ x
  · intro x hx
    rw [runs_stop hx, runs_stop hx]
  · intro x hx hp
    rw [runs_gap hp, runs_gap ((h x (by omega)).trans hp)]
  · intro x k hx hp ih
    rw [runs_step hx hp, runs_step hx ((h x (by omega)).trans hp), ih]
theorem runs_mem {A : Rgs} {n : Nat} {down x : Int} : ∀ r ∈ runsR A n x down, bearB A r.2 r.1 = true ∧ r.2 < n ∧ down ≤ r.1 ∧ r.1 ≤ x := by
  refine runs_ind (A := A) (n := n) (down := down) (C := fun x => ∀ r ∈ runsR A n x down, bearB A r.2 r.1 = true ∧ r.2 < n ∧ down ≤ r.1 ∧ r.1 ≤ x) ?_ ?_ ?_ x
  · intro x hx r hr
    rw [runs_stop hx] at hr
    cases hr
  · intro x hx hp r hr
    rw [runs_gap hp] at hr
    cases hr
  · intro x k hx hp ih r hr
    have pk := pick_some hp
    rw [runs_step hx hp] at hr
    rcases List.mem_cons.1 hr with rfl | hr
    · exact ⟨bearB_iff.2 ⟨pk.at1, pk.at2⟩, pk.lt, by simp only; omega, Int.le_refl _⟩
    · obtain ⟨h1, h2, h3, h4⟩ := ih r hr
      have := pk.at1
      exact ⟨h1, h2, h3, by omega⟩
theorem runs_12 {s : RS} {ps : List Int} (ok : StoOk s ps) {down : Int} (hd : s.short ≤ down) (x : Int) : runsR (allR s ps fun _ => true) 12 x down = runsR (betA s ps) ps.length x down := by
  have hs := ok.g.s1
  have n2 := ok.n2
  rw [← (runs_bet ok (n := ps.length) hd x).1]
  refine runs_same (fun y hy => pick_more n2 fun j hj _ => ?_) x
  rw [bearB, allR, List.getElem?_eq_none hj]
  exact decide_eq_false (by simp only; omega)
def lastA (A : Rgs) (rs : List (Int × Nat)) (x : Int) (j : Nat) : Int := if j = 0 then x else match rs[j - 1]? with
  | some r => (A r.2).1
  | none => x
theorem far_last {A : Rgs} {n : Nat} {down : Int} : ∀ (k : Nat) (x y : Int), y = x + 1 → farTo A n down k y = lastA A (runsR A n x down) y (min k (runsR A n x down).length)
  | 0, x, y, _ => by rw [Nat.zero_min]; rfl
  | k + 1, x, y, hy => by
    subst hy
    by_cases hx : x < down
    · rw [farTo, if_neg (by omega), runs_stop hx]
      rfl
    · rw [farTo, if_pos (by omega), Int.add_sub_cancel]
      cases hp : pickR A x n with
      | none =>
        rw [runs_gap hp]
        rfl
      | some j =>
        simp only
        rw [runs_step hx hp, far_last k ((A j).1 - 1) (A j).1 (by omega)]
        generalize runsR A n ((A j).1 - 1) down = rs
        rw [List.length_cons, Nat.add_min_add_right]
        by_cases h0 : min k rs.length = 0
        · rw [h0]
          rfl
        · obtain ⟨q, hq⟩ : ∃ q, min k rs.length = q + 1 := ⟨min k rs.length - 1, by omega⟩
          rw [hq]
          simp only [lastA, Nat.succ_ne_zero, if_false, Nat.add_sub_cancel, List.getElem?_cons_succ]
          have : q < rs.length := by omega
          rw [List.getElem?_eq_getElem this]
theorem far_all {s : RS} {ps : List Int} (ok : StoOk s ps) (k : Nat) (hk : 1 ≤ k) :
    (rfarE s ps k = if stoE s ps = 0 then (if (k : Int) < 1 ∨ 20 < (k : Int) then 2 else if (runsR (allR s ps fun _ => true) 12 s.long s.short).length = 0 then 19 else 0) else stoE s ps) ∧
    ((runsR (allR s ps fun _ => true) 12 s.long s.short).length ≠ 0 → farI s ps k = lastA (allR s ps fun _ => true) (runsR (allR s ps fun _ => true) 12 s.long s.short) 0 (min k (runsR (allR s ps fun _ => true) 12 s.long s.short).length)) := by
  have hr := runs_12 ok (Int.le_refl s.short) s.long
  have hI : farI s ps k = lastA (betA s ps) (runsR (betA s ps) ps.length s.long s.short) (s.long + 1) (min k (runsR (betA s ps) ps.length s.long s.short).length) := by
    rw [farI, Int.toNat_natCast]
    exact far_last k s.long (s.long + 1) rfl
  rw [← hr] at hI
  have hm : ∀ r ∈ runsR (allR s ps fun _ => true) 12 s.long s.short, allR s ps (fun _ => true) r.2 = betA s ps r.2 ∧ (betA s ps r.2).1 ≤ s.long := fun r h => by
    obtain ⟨h1, h2, h3, h4⟩ := runs_mem r h
    have e := bear_val ok h3 h1
    have h5 := (bearB_iff.1 h1).1
    rw [e] at h5
    exact ⟨e, by omega⟩
  generalize runsR (allR s ps fun _ => true) 12 s.long s.short = rs at *
  by_cases h0 : rs.length = 0
  · rw [h0, Nat.min_zero] at hI
    refine ⟨?_, fun h => absurd h0 h⟩
    rw [rfarE, hI, if_pos h0, if_pos (show s.long < lastA _ _ _ _ by rw [lastA, if_pos rfl]; omega)]
  · obtain ⟨q, hq⟩ : ∃ q, min k rs.length = q + 1 := ⟨min k rs.length - 1, by omega⟩
    have hql : q < rs.length := by omega
    obtain ⟨r, hrr⟩ : ∃ r, rs[q]? = some r := ⟨_, List.getElem?_eq_getElem hql⟩
    obtain ⟨m1, m2⟩ := hm r (List.mem_of_getElem? hrr)
    have e1 : ∀ A x, lastA A rs x (q + 1) = (A r.2).1 := fun A x => by simp only [lastA, Nat.succ_ne_zero, if_false, Nat.add_sub_cancel, hrr]
    rw [hq, e1] at hI
    refine ⟨?_, fun _ => by rw [hI, hq, e1, m1]⟩
    rw [rfarE, hI, if_neg h0, if_neg (show ¬ s.long < (betA s ps r.2).1 by omega)]
end Go.Proofs.Ytdkneonokbakjaa.Eng
