/-
  A part of the texts that the claim builds on: see the last one.
-/
import Derived.WalkKit
import Derived.WalkSpells
import Derived.Lib.Hide
import Derived.Deep.Draws
import Derived.Deep.QuietTactic
import Derived.BigQuiet
import Derived.Deep.RegionHeld
import Derived.Laws.Slices
import Derived.Laws.Tables
import Derived.Laws.MakeOwn
import Derived.Maps.AppendAt
import Derived.ArgAppend
set_option linter.unusedSimpArgs false
set_option linter.unusedVariables false
namespace Go.Proofs.Ytdkneonokbakjaa
open Go.RowKit
def setAt (i : Nat) (u : Value) : Obj → Obj
  | .cells c t fr => .cells (c.setIfInBounds i u) t fr
  | o => o
section
variable {w w' : World} {g : Nat} {f : Obj → Obj} {o x : Obj}
end
end Go.Proofs.Ytdkneonokbakjaa

namespace Go.Proofs.Ytdkneonokbakjaa
open Go.RowKit
def putAll : List (Option Tmp) → Nat → (Nat → Value) → Act → Act
  | [], _, _, a => a
  | d :: l, i, x, a => putAll l (i + 1) x (a.put d (x i))
section
variable {P : Program} {ops : Array Oper} {Q : Exit → Act → World → Prop}
theorem wpOp_of {i : Nat} {o : Oper} {a : Act} {w : World} {K : Act → World → Prop} (ho : ops[i]? = some o)
    (h : ∀ K' : Act → World → Prop, (∀ a w, K a w → K' a w) → if Region.wanted o (yielded ops a.tmps) = true then Oper.wp P o a w K' Q else K' (a.put o.dst undef) w) : wpOp P ops Q i K a w :=
  wpOp_step ho h
def leftOf (n : Nat) (listed : Array Bool) : Nat := ((List.range n).filter fun i => !listed.getD i true).length
theorem leftOf_set {n i : Nat} {listed : Array Bool} (hs : listed.size = n) (hi : listed.getD i true = false) (fuel : Nat) (h : leftOf n listed ≤ fuel + 1) : leftOf n (listed.setIfInBounds i true) ≤ fuel := by
  have hin : i < n := by
    rcases Nat.lt_or_ge i n with h1 | h1
    · exact h1
    · rw [← hs] at h1; simp [Array.getElem?_eq_none h1] at hi
  unfold leftOf at h ⊢
  have h1 : (List.range n).filter (fun j => !(listed.setIfInBounds i true).getD j true) = ((List.range n).filter fun j => !listed.getD j true).filter (fun j => j != i) := by
    rw [List.filter_filter]
    apply List.filter_congr
    intro j hj
    by_cases e : i = j
    · subst e
      simp [hs, hin]
    · rw [getD_set_ne true e]
      have : (j != i) = true := by simp; omega
      rw [this, Bool.true_and]
  rw [h1]
  have h2 : i ∈ (List.range n).filter fun j => !listed.getD j true := by
    rw [List.mem_filter]; exact ⟨List.mem_range.2 hin, by rw [hi]; rfl⟩
  have h3 : (((List.range n).filter fun j => !listed.getD j true).filter fun j => j != i).length < ((List.range n).filter fun j => !listed.getD j true).length := by
    rw [List.length_filter_lt_length_iff_exists]
    exact ⟨i, h2, by simp⟩
  omega
def backB (ops : Array Oper) : Bool := (List.range ops.size).all fun i => ((ops[i]?).map fun o => o.after.all fun e => !Region.binds .any e || decide (e.on < i)).getD false
theorem all_listed {listed : Array Bool} (hs : listed.size = ops.size) (hB : backB ops = true) (hr : Region.ready .any ops listed = []) : ∀ (i : Nat), i < ops.size → listed.getD i true = true := by
  intro i
  induction i using Nat.strongRecOn with
  | ind i ih =>
    intro hi
    cases h : listed.getD i true with
    | true => rfl
    | false =>
      have : i ∈ Region.ready .any ops listed := by
        rw [mem_ready]
        refine ⟨h, ops[i], Array.getElem?_eq_getElem hi, fun e he hb => ?_⟩
        have hb1 := List.all_eq_true.1 hB i (List.mem_range.2 hi)
        rw [Array.getElem?_eq_getElem hi] at hb1
        simp only [Option.map_some, Option.getD_some] at hb1
        have hb2 := Array.all_eq_true.1 hb1
        obtain ⟨k, hk, rfl⟩ := Array.getElem_of_mem he
        have hb3 := hb2 k hk
        simp only [hb, Bool.not_true, Bool.false_or, decide_eq_true_eq] at hb3
        have h4 := ih _ hb3 (by omega)
        have h5 : (ops[i].after[k]).on < listed.size := by omega
        simp [h5] at h4 ⊢
        exact h4
      rw [hr] at this
      cases this
end
end Go.Proofs.Ytdkneonokbakjaa

namespace Go.Proofs.Ytdkneonokbakjaa.Eng
open Go.RowKit
structure Home where
  blk : Nat
  cap : Nat
  esz : Nat
structure Env where
  ro : Nat → Prop
  dom : Nat → Prop
  home : Nat → Home
structure Env.le (E E' : Env) : Prop where
  ro : ∀ b, E.ro b → E'.ro b
  dom : ∀ i, E.dom i → E'.dom i
  home : ∀ i, E.dom i → E'.home i = E.home i
theorem Env.le.refl (E : Env) : E.le E := ⟨fun _ h => h, fun _ h => h, fun _ _ => rfl⟩
theorem Env.le.trans {E F G : Env} (h : E.le F) (k : F.le G) : E.le G := ⟨fun b hb => k.ro b (h.ro b hb), fun i hi => k.dom i (h.dom i hi), fun i hi => (k.home i (h.dom i hi)).trans (h.home i hi)⟩
inductive Dat where
  | val (v : Value)
  | agg (cs : List Dat)
  | tup (cs : List Dat)
  | list (rows : List (List Dat))
  | any
instance : Inhabited Dat := ⟨.tup []⟩
inductive SV where
  | und
  | d (x : Dat)
  | agg (cs : List SV)
  | nilS
  | own (id n z : Nat)
  | lin (id n : Nat)
  | rptr (cs : List Dat)
  | ptr (id i j : Nat)
  | fn (f : FuncId) (first captured : List SV)
  | full (rows : List (List Dat))
  | tup (cs : List SV)
  | yield (id : Nat)
  | sl (id off n : Nat) (c : Option Nat)
  | mp (id : Nat)
instance : Inhabited SV := ⟨.und⟩
def Dat.one : Dat → Bool
  | .agg _ | .tup _ => false
  | _ => true
def SV.one : SV → Bool
  | .d x => x.one
  | .agg _ | .und | .tup _ => false
  | _ => true
inductive RepD (ro : Nat → Prop) (w : World) : Dat → Value → Prop
  | val (v) : v.oneCell' = true → RepD ro w (.val v) v
  | agg (cs : List Dat) (vs : Array Value) : vs.size = cs.length → (∀ c ∈ cs, c.one = true) → (∀ (i : Nat) c v, cs[i]? = some c → vs[i]? = some v → RepD ro w c v) → RepD ro w (.agg cs) (.agg vs)
  | tup (cs : List Dat) (vs : Array Value) : vs.size = cs.length → (∀ (i : Nat) c v, cs[i]? = some c → vs[i]? = some v → RepD ro w c v) → RepD ro w (.tup cs) (.tuple vs)
  | list (rows : List (List Dat)) (A : Option Addr) (c : Nat) (f : Nat → Nat → Value) : rows.length ≤ c → c ≤ maxLen → (∀ r ∈ rows, ∀ c ∈ r, c.one = true) →
      (0 < rows.length → ∃ b off esz, A = some ⟨b, off, none⟩ ∧ ro b ∧ (∀ r ∈ rows, r.length = esz) ∧ ∀ i j, i < rows.length → j < esz → w.cell? ⟨b, off + i * esz + j, none⟩ = some (f i j)) →
      (∀ (i j : Nat) r c, rows[i]? = some r → r[j]? = some c → RepD ro w c (f i j)) → RepD ro w (.list rows) (.slice A rows.length c)
  | any (v) : v.oneCell' = true → RepD ro w .any v
inductive Rep (E : Env) (w : World) : SV → Value → Prop
  | und (v) : Rep E w .und v
  | d (x v) : RepD E.ro w x v → Rep E w (.d x) v
  | agg (cs : List SV) (vs : Array Value) : vs.size = cs.length → (∀ c ∈ cs, c.one = true) → (∀ (i : Nat) c v, cs[i]? = some c → vs[i]? = some v → Rep E w c v) → Rep E w (.agg cs) (.agg vs)
  | nilS : Rep E w .nilS (.slice none 0 0)
  | lin (id n) : E.dom id → (E.home id).esz = 1 → (E.home id).cap = n → Rep E w (.lin id n) (.slice (some ⟨(E.home id).blk, 0, none⟩) n n)
  | own (id n z) : E.dom id → (E.home id).esz = z → Rep E w (.own id n z) (.slice (some ⟨(E.home id).blk, 0, none⟩) n (E.home id).cap)
  | rptr (cs : List Dat) (b off : Nat) (f : Nat → Value) : E.ro b → (∀ c ∈ cs, c.one = true) → (∀ j, j < cs.length → w.cell? ⟨b, off + j, none⟩ = some (f j)) →
      (∀ (j : Nat) c, cs[j]? = some c → RepD E.ro w c (f j)) → Rep E w (.rptr cs) (.pointer (some ⟨b, off, none⟩))
  | ptr (id i j) : E.dom id → Rep E w (.ptr id i j) (.pointer (some ⟨(E.home id).blk, i * (E.home id).esz + j, none⟩))
  | fn (f) (xs ys : List SV) (us vs : Array Value) : us.size = xs.length → vs.size = ys.length → (∀ (i : Nat) c v, xs[i]? = some c → us[i]? = some v → Rep E w c v) → (∀ (i : Nat) c v, ys[i]? = some c → vs[i]? = some v → Rep E w c v) → Rep E w (.fn f xs ys) (.func (.func f) us vs)
  | tup (cs : List SV) (vs : Array Value) : vs.size = cs.length → (∀ (i : Nat) c v, cs[i]? = some c → vs[i]? = some v → Rep E w c v) → Rep E w (.tup cs) (.tuple vs)
  | yield (id) : E.dom id → Rep E w (.yield id) (.func (.yield (E.home id).blk) #[] #[])
  | sl (id off n c) (o k : Nat) : E.dom id → (off = 0 ∨ c ≠ none → k = c.getD (E.home id).cap) → (0 < n ∨ off = 0 ∨ c ≠ none → o = off) → n ≤ k → Rep E w (.sl id off n c) (.slice (some ⟨(E.home id).blk, o, none⟩) n k)
  | mp (id) : E.dom id → Rep E w (.mp id) (.map (some (E.home id).blk))
  | full (rows) (A : Option Addr) : RepD E.ro w (.list rows) (.slice A rows.length rows.length) → Rep E w (.full rows) (.slice A rows.length rows.length)
theorem cell_of_block {w w' : World} {b : Nat} (h : w'.heap[b]? = w.heap[b]?) (o : Nat) : w'.cell? ⟨b, o, none⟩ = w.cell? ⟨b, o, none⟩ := World.cell?_of_block (w := w) (a := ⟨b, o, none⟩) h
theorem RepD.keep {ro ro' : Nat → Prop} {w w' : World} {x : Dat} {v : Value} (h : RepD ro w x v) (hr : ∀ b, ro b → ro' b) (hw : ∀ b, ro b → w'.heap[b]? = w.heap[b]?) : RepD ro' w' x v := by
  induction h with
  | val v h => exact .val v h
  | agg cs vs hs h1 _ ih => exact .agg cs vs hs h1 ih
  | tup cs vs hs _ ih => exact .tup cs vs hs ih
  | list rows A c f h1 h2 h3 h4 _ ih =>
    refine .list rows A c f h1 h2 h3 (fun hn => ?_) ih
    obtain ⟨b, off, esz, hA, hb, hz, hc⟩ := h4 hn
    exact ⟨b, off, esz, hA, hr b hb, hz, fun i j hi hj => (cell_of_block (hw b hb) _).trans (hc i j hi hj)⟩
  | any v h => exact .any v h
theorem Rep.keep {E E' : Env} {w w' : World} {x : SV} {v : Value} (h : Rep E w x v) (hE : E.le E') (hw : ∀ b, E.ro b → w'.heap[b]? = w.heap[b]?) : Rep E' w' x v := by
  induction h with
  | und v => exact .und v
  | d x v h => exact .d x v (h.keep hE.ro hw)
  | agg cs vs hs h1 _ ih => exact .agg cs vs hs h1 ih
  | nilS => exact .nilS
  | lin id n hd hz hc => rw [← hE.home id hd]; exact .lin id n (hE.dom id hd) ((congrArg Home.esz (hE.home id hd)).trans hz) ((congrArg Home.cap (hE.home id hd)).trans hc)
  | own id n z hd hz => rw [← hE.home id hd]; exact .own id n z (hE.dom id hd) ((congrArg Home.esz (hE.home id hd)).trans hz)
  | rptr cs b off f hb h1 hc hr => exact .rptr cs b off f (hE.ro b hb) h1 (fun j hj => (cell_of_block (hw b hb) _).trans (hc j hj)) fun j c hj => (hr j c hj).keep hE.ro hw
  | ptr id i j hd => rw [← hE.home id hd]; exact .ptr id i j (hE.dom id hd)
  | fn f xs ys us vs h1 h2 _ _ ih1 ih2 => exact .fn f xs ys us vs h1 h2 ih1 ih2
  | full rows A h => exact .full rows A (h.keep hE.ro hw)
  | tup cs vs hs _ ih => exact .tup cs vs hs ih
  | yield id hd => rw [← hE.home id hd]; exact .yield id (hE.dom id hd)
  | sl id off n c o k hd hk ho hn => rw [← hE.home id hd]; exact .sl id off n c o k (hE.dom id hd) (by rw [hE.home id hd]; exact hk) ho hn
  | mp id hd => rw [← hE.home id hd]; exact .mp id (hE.dom id hd)
theorem Rep.slN {E : Env} {w : World} (id off n : Nat) (c : Option Nat) (k : Nat) (hd : E.dom id) (hk : k = c.getD (E.home id).cap) (hn : n ≤ k) : Rep E w (.sl id off n c) (.slice (some ⟨(E.home id).blk, off, none⟩) n k) := .sl id off n c off k hd (fun _ => hk) (fun _ => rfl) hn
theorem RepD.one {ro : Nat → Prop} {w : World} {x : Dat} {v : Value} (h : RepD ro w x v) (h1 : x.one = true) : v.oneCell' = true := by
  cases h with
  | val v h => exact h
  | agg => simp [Dat.one] at h1
  | tup => simp [Dat.one] at h1
  | list => rfl
  | any v h => exact h
theorem Rep.one {E : Env} {w : World} {x : SV} {v : Value} (h : Rep E w x v) (h1 : x.one = true) : v.oneCell' = true := by
  cases h with
  | und => simp [SV.one] at h1
  | d x v h => exact h.one h1
  | agg => simp [SV.one] at h1
  | tup => simp [SV.one] at h1
  | nilS => rfl
  | own => rfl
  | lin => rfl
  | rptr => rfl
  | ptr => rfl
  | fn => rfl
  | full => rfl
  | yield => rfl
  | sl => rfl
  | mp => rfl
inductive Blk where
  | box (ty : TypeId) (cells : List SV) (frz : Bool)
  | row (ty : TypeId) (esz : Nat) (rows : List (List Dat)) (frz : Bool)
  | loop (st : LoopState) (pe : Option Code) (ns : Nat) (slots : Nat → SV) (ps : Array Tmp) (assign body : Code) (frz : Bool)
  | map (es : List (Value × SV × Nat)) (clock : Nat) (frz : Bool)
  | part (z : Nat) (ty : TypeId) (cells : List SV) (frz : Bool)
  | iter (mid since last : Nat) (seen : List Nat) (frz : Bool)
def Blk.frz : Blk → Bool
  | .box _ _ f => f
  | .row _ _ _ f => f
  | .loop _ _ _ _ _ _ _ f => f
  | .map _ _ f => f
  | .part _ _ _ f => f
  | .iter _ _ _ _ f => f
def frzB : Blk → Blk
  | .row t z rows _ => .row t z rows true
  | .box t c _ => .box t c true
  | .loop st pe ns sl ps x y _ => .loop st pe ns sl ps x y true
  | .map es c _ => .map es c true
  | .part z t c _ => .part z t c true
  | .iter a b c d _ => .iter a b c d true
theorem frzB_frz (b : Blk) : (frzB b).frz = true := by cases b <;> rfl
inductive Holds (E : Env) (w : World) (h : Home) : Blk → Prop
  | box (ty cells frz) (cur : Array Value) : w.heap[h.blk]? = some (.cells cur ty (0, 0)) → cur.size = cells.length → (∀ c ∈ cells, c.one = true) → (∀ (j : Nat) c v, cells[j]? = some c → cur[j]? = some v → Rep E w c v) → Holds E w h (.box ty cells frz)
  | loop (st pe ns sl ps x y frz) (r : Loop) (g : Nat → Value) : w.heap[h.blk]? = some (.loop r) → r.state = st → r.pending = pe → r.params = ps → r.assign = x → r.body = y → r.tmps.size = ns → (∀ t, Rep E w (sl t) (if t < ns then r.tmps.getD t undef else g t)) → Holds E w h (.loop st pe ns sl ps x y frz)
  | map (es clock frz) (ents : Array MapEntry) : w.heap[h.blk]? = some (.map ents clock) → ents.size = es.length → (∀ (i : Nat) q e, es[i]? = some q → ents[i]? = some e → e.key = q.1 ∧ e.born = q.2.2 ∧ Rep E w q.2.1 e.val) → Holds E w h (.map es clock frz)
  | part (z ty cells frz) (cur : Array Value) : (h.esz = z ∧ cur.size = h.cap * z ∧ h.cap ≤ maxLen) → w.heap[h.blk]? = some (.cells cur ty (0, 0)) → cells.length ≤ cur.size → (∀ c ∈ cells, c.one = true) → (∀ (j : Nat) c v, cells[j]? = some c → cur[j]? = some v → Rep E w c v) → Holds E w h (.part z ty cells frz)
  | iter (mid since last seen frz) (arr : Array Nat) : w.heap[h.blk]? = some (.mapIter (some (E.home mid).blk) since arr last) → E.dom mid → since ≤ last → ((∀ b, b ∈ arr.toList ↔ b ∈ seen) ∧ arr.back? = seen.head?) → Holds E w h (.iter mid since last seen frz)
  | row (ty esz rows frz) (cur : Array Value) : w.heap[h.blk]? = some (.cells cur ty (0, 0)) → h.esz = esz → cur.size = h.cap * esz → rows.length ≤ h.cap → h.cap ≤ maxLen → (∀ r ∈ rows, r.length = esz) → (∀ r ∈ rows, ∀ c ∈ r, c.one = true) →
      (∀ (i j : Nat) r c v, rows[i]? = some r → r[j]? = some c → cur[i * esz + j]? = some v → RepD E.ro w c v) → Holds E w h (.row ty esz rows frz)
theorem Holds.keep {E E' : Env} {w w' : World} {h : Home} {b : Blk} (hh : Holds E w h b) (hE : E.le E') (hw : ∀ b, E.ro b → w'.heap[b]? = w.heap[b]?) (hb : w'.heap[h.blk]? = w.heap[h.blk]?) : Holds E' w' h b := by
  cases hh with
  | box ty cells frz cur h1 h2 h3 h4 => exact .box ty cells frz cur (hb.trans h1) h2 h3 fun j c v hc hv => (h4 j c v hc hv).keep hE hw
  | part z ty cells frz cur h0 h1 h2 h3 h4 => exact .part z ty cells frz cur h0 (hb.trans h1) h2 h3 fun j c v hc hv => (h4 j c v hc hv).keep hE hw
  | iter mid since last seen frz arr h1 h2 h3 h4 => exact .iter mid since last seen frz arr (by rw [hE.home mid h2]; exact hb.trans h1) (hE.dom mid h2) h3 h4
  | map es clock frz ents h1 h2 h3 => exact .map es clock frz ents (hb.trans h1) h2 fun i q e hq he => ⟨(h3 i q e hq he).1, (h3 i q e hq he).2.1, (h3 i q e hq he).2.2.keep hE hw⟩
  | loop st pe ns sl ps x y frz r g h1 h2 h3 h4 h5 h6 h7 h8 => exact .loop st pe ns sl ps x y frz r g (hb.trans h1) h2 h3 h4 h5 h6 h7 fun t => (h8 t).keep hE hw
  | row ty esz rows frz cur h1 h2 h3 h4 h5 h6 h7 h8 => exact .row ty esz rows frz cur (hb.trans h1) h2 h3 h4 h5 h6 h7 fun i j r c v hr hc hv => (h8 i j r c v hr hc hv).keep hE.ro hw
theorem Holds.lt {E : Env} {w : World} {h : Home} {b : Blk} (hh : Holds E w h b) : h.blk < w.heap.size := by
  cases hh with
  | box ty cells frz cur h1 => exact (Array.getElem?_eq_some_iff.1 h1).1
  | row ty esz rows frz cur h1 => exact (Array.getElem?_eq_some_iff.1 h1).1
  | loop st pe ns sl ps x y frz r g h1 => exact (Array.getElem?_eq_some_iff.1 h1).1
  | map es clock frz ents h1 => exact (Array.getElem?_eq_some_iff.1 h1).1
  | part z ty cells frz cur h0 h1 => exact (Array.getElem?_eq_some_iff.1 h1).1
  | iter mid since last seen frz arr h1 => exact (Array.getElem?_eq_some_iff.1 h1).1
structure St where
  slots : Nat → SV
  mem : Nat → Option Blk
structure Kept (U : Nat → Prop) (w w' : World) : Prop where
  os : w'.os = w.os
  tape : w'.tape = w.tape
  output : w'.output = w.output
  size : w.heap.size ≤ w'.heap.size
  block : ∀ k, U k → w'.heap[k]? = w.heap[k]?
theorem Kept.refl (U : Nat → Prop) (w : World) : Kept U w w := ⟨rfl, rfl, rfl, Nat.le_refl _, fun _ _ => rfl⟩
theorem Kept.trans {U : Nat → Prop} {a b c : World} (h : Kept U a b) (k : Kept U b c) : Kept U a c :=
  ⟨k.os.trans h.os, k.tape.trans h.tape, k.output.trans h.output, Nat.le_trans h.size k.size, fun i hi => (k.block i hi).trans (h.block i hi)⟩
theorem Kept.mono {U V : Nat → Prop} {w w' : World} (h : Kept U w w') (hV : ∀ b, V b → U b) : Kept V w w' := ⟨h.os, h.tape, h.output, h.size, fun k hk => h.block k (hV k hk)⟩
theorem Kept.drew {U : Nat → Prop} (w : World) : Kept U w w.drew := ⟨rfl, rfl, rfl, Nat.le_refl _, fun _ _ => rfl⟩
theorem kept_of {U : Nat → Prop} {B : Nat} {w w' : World} (h : Below B w w') (hU : ∀ b, U b → b < B) : Kept U w w' := ⟨h.os, h.tape, h.output, h.size, fun k hk => h.block k (hU k hk)⟩
theorem Kept.below {B : Nat} {w w' : World} (h : Kept (· < B) w w') : Below B w w' := ⟨h.os, h.tape, h.output, h.size, h.block⟩
structure Fix where
  w : World
  U : Nat → Prop
  lt : ∀ b, U b → b < w.heap.size
  g : Nat → Value
  ds : List Deferred := []
  e0 : Env := ⟨fun _ => False, fun _ => False, fun _ => ⟨0, 0, 0⟩⟩
structure Fix.plain (W0 : Fix) : Prop where
  ds : W0.ds = []
  dom : ∀ i, ¬ W0.e0.dom i
  ro : ∀ b, ¬ W0.e0.ro b
def fixOf (w : World) : Fix := { w := w, U := (· < w.heap.size), lt := fun _ h => h, g := fun _ => undef }
theorem fixOf_plain (w : World) : (fixOf w).plain := ⟨rfl, fun _ h => h, fun _ h => h⟩
structure Sim (W0 : Fix) (R0 : Nat → Prop) (ns : Nat) (D : Nat → Prop) (s : St) (E : Env) (a : Act) (w : World) : Prop where
  below : Kept W0.U W0.w w
  ro0 : ∀ b, R0 b → E.ro b
  ro1 : ∀ b, E.ro b → R0 b ∨ ¬ W0.U b
  rlt : ∀ b, E.ro b → b < w.heap.size
  size : a.tmps.size = ns
  dfr : a.defers = W0.ds
  slot : ∀ t, Rep E w (s.slots t) (if t < ns then a.tmps.getD t undef else W0.g t)
  dom : ∀ i, E.dom i → D i
  live : ∀ i b, s.mem i = some b → E.dom i
  mem : ∀ i b, s.mem i = some b → Holds E w (E.home i) b
  base : ∀ i b, s.mem i = some b → ¬ W0.U (E.home i).blk
  frz : ∀ i b, s.mem i = some b → (b.frz = true ↔ E.ro (E.home i).blk)
  inj : ∀ i j b c, s.mem i = some b → s.mem j = some c → i ≠ j → (E.home i).blk ≠ (E.home j).blk
  le0 : ∀ i, W0.e0.dom i → E.dom i ∧ E.home i = W0.e0.home i
  re0 : ∀ b, W0.e0.ro b → E.ro b ∧ w.heap[b]? = W0.w.heap[b]?
def setSlot (f : Nat → SV) (d : Option Nat) (x : SV) : Nat → SV := match d with
  | none => f
  | some d => fun t => if t = d then x else f t
def setMem (m : Nat → Option Blk) (i : Nat) (b : Option Blk) : Nat → Option Blk := fun k => if k = i then b else m k
theorem getD_set_eq (a : Array Value) (d : Nat) (v : Value) (h : d < a.size) : (a.setIfInBounds d v).getD d undef = v := by simp [h]
theorem getD_set_far (a : Array Value) {d t : Nat} (v : Value) (h : d ≠ t) : (a.setIfInBounds d v).getD t undef = a.getD t undef := by
  simp [Array.getElem?_setIfInBounds_ne h]
variable {W0 : Fix} {R0 : Nat → Prop} {ns : Nat} {D : Nat → Prop} {s : St} {E : Env} {a : Act} {w : World}
theorem Sim.fresh (h : Sim W0 R0 ns D s E a w) {b : Nat} (hb : w.heap.size ≤ b) : ¬ W0.U b := fun hu => by have := W0.lt b hu; have := h.below.size; omega
theorem Sim.kept (h : Sim W0 R0 ns D s E a w) {w' : World} (hb : Below w.heap.size w w') : Kept W0.U w w' := kept_of hb fun b hu => Nat.lt_of_lt_of_le (W0.lt b hu) h.below.size
theorem Sim.put (h : Sim W0 R0 ns D s E a w) {d : Option Nat} (hd : ∀ t, d = some t → t < ns) {x : SV} {v : Value} (hx : Rep E w x v) : Sim W0 R0 ns D { s with slots := setSlot s.slots d x } E (a.put d v) w := by
  refine { h with size := ?_, dfr := ?_, slot := ?_ }
  · cases d <;> simp [Act.put, h.size]
  · cases d <;> simp [Act.put, h.dfr]
  · intro t
    cases d with
    | none => exact h.slot t
    | some d =>
      simp only [setSlot, Act.put]
      by_cases e : t = d
      · subst e
        have ht := hd t rfl
        rw [if_pos rfl, if_pos ht, getD_set_eq _ _ _ (by rw [h.size]; exact ht)]
        exact hx
      · rw [if_neg e, getD_set_far _ _ (Ne.symm e)]
        exact h.slot t
theorem Sim.later (h : Sim W0 R0 ns D s E a w) {w' : World} {E' : Env} {D' : Nat → Prop} (hb : Kept W0.U w w') (hE : E.le E') (hw : ∀ b, E.ro b → w'.heap[b]? = w.heap[b]?) (hm : ∀ i b, s.mem i = some b → w'.heap[(E.home i).blk]? = w.heap[(E.home i).blk]?)
    (hr1 : ∀ b, E'.ro b → E.ro b ∨ (¬ W0.U b ∧ b < w'.heap.size ∧ ∀ i c, s.mem i = some c → (E.home i).blk ≠ b)) (hD : ∀ i, E'.dom i → D' i) : Sim W0 R0 ns D' s E' a w' := by
  refine ⟨h.below.trans hb, fun b hb => hE.ro b (h.ro0 b hb), fun b hb => ?_, fun b hb' => ?_, h.size, h.dfr, fun t => (h.slot t).keep hE hw, hD, fun i b hi => hE.dom i (h.live i b hi), fun i b hi => ?_, fun i b hi => ?_, fun i b hi => ?_, fun i j b c hi hj hij => ?_, fun i hi => ⟨hE.dom i (h.le0 i hi).1, (hE.home i (h.le0 i hi).1).trans (h.le0 i hi).2⟩, fun b hb => ⟨hE.ro b (h.re0 b hb).1, (hw b (h.re0 b hb).1).trans (h.re0 b hb).2⟩⟩
  · rcases hr1 b hb with h1 | ⟨h1, _, _⟩
    · exact h.ro1 b h1
    · exact .inr h1
  · rcases hr1 b hb' with h1 | ⟨_, h1, _⟩
    · exact Nat.lt_of_lt_of_le (h.rlt b h1) hb.size
    · exact h1
  · rw [hE.home i (h.live i b hi)]
    exact (h.mem i b hi).keep hE hw (hm i b hi)
  · rw [hE.home i (h.live i b hi)]
    exact h.base i b hi
  · rw [hE.home i (h.live i b hi)]
    refine (h.frz i b hi).trans ⟨fun k => hE.ro _ k, fun k => ?_⟩
    rcases hr1 _ k with h1 | ⟨_, _, h1⟩
    · exact h1
    · exact absurd rfl (h1 i b hi)
  · rw [hE.home i (h.live i b hi), hE.home j (h.live j c hj)]
    exact h.inj i j b c hi hj hij
theorem Sim.drew (h : Sim W0 R0 ns D s E a w) : Sim W0 R0 ns D s E a w.drew :=
  h.later (Kept.drew _) (Env.le.refl E) (fun _ _ => rfl) (fun _ _ _ => rfl) (fun b hb => .inl hb) h.dom
theorem Sim.drop (h : Sim W0 R0 ns D s E a w) (i : Nat) : Sim W0 R0 ns D { s with mem := setMem s.mem i none } E a w := by
  have e : ∀ {k b}, setMem s.mem i none k = some b → s.mem k = some b := fun {k b} hk => by
    unfold setMem at hk
    split at hk
    · cases hk
    · exact hk
  exact { h with live := fun k b hk => h.live k b (e hk), mem := fun k b hk => h.mem k b (e hk), base := fun k b hk => h.base k b (e hk), frz := fun k b hk => h.frz k b (e hk), inj := fun k j b c hk hj hn => h.inj k j b c (e hk) (e hj) hn }
def Env.add (E : Env) (i : Nat) (h : Home) : Env := { ro := E.ro, dom := fun k => k = i ∨ E.dom k, home := fun k => if k = i then h else E.home k }
theorem Env.le_add (E : Env) (i : Nat) (h : Home) (hi : ¬ E.dom i) : E.le (E.add i h) :=
  ⟨fun _ h => h, fun _ h => .inr h, fun k hk => by unfold Env.add; simp only []; rw [if_neg]; rintro rfl; exact hi hk⟩
theorem Sim.new (h : Sim W0 R0 ns D s E a w) {w' : World} {i : Nat} (hi : ¬ D i) (b : Blk) (ho : Home) (hb : Kept W0.U w w') (hw : ∀ b, E.ro b → w'.heap[b]? = w.heap[b]?) (hm : ∀ k c, s.mem k = some c → w'.heap[(E.home k).blk]? = w.heap[(E.home k).blk]?)
    (h1 : Holds (E.add i ho) w' ho b) (h2 : ¬ W0.U ho.blk) (h3 : b.frz = false) (h4 : ¬ E.ro ho.blk) (h5 : ∀ k c, s.mem k = some c → (E.home k).blk ≠ ho.blk) :
    Sim W0 R0 ns (fun k => k = i ∨ D k) { s with mem := setMem s.mem i (some b) } (E.add i ho) a w' := by
  have hid : ¬ E.dom i := fun hk => hi (h.dom i hk)
  have hni : ∀ k c, s.mem k = some c → k ≠ i := fun k c hk e => hid (e ▸ h.live k c hk)
  have hh : ∀ k c, s.mem k = some c → (E.add i ho).home k = E.home k := fun k c hk => if_neg (hni k c hk)
  have hhi : (E.add i ho).home i = ho := if_pos rfl
  have h0 := h.later (D' := fun k => k = i ∨ D k) hb (E.le_add i ho hid) hw hm (fun b hb => .inl hb) (fun k hk => hk.imp id (h.dom k))
  have e : ∀ {k c}, setMem s.mem i (some b) k = some c → (k = i ∧ c = b) ∨ (k ≠ i ∧ s.mem k = some c) := fun {k c} hk => by
    unfold setMem at hk
    split at hk
    · rename_i e; cases hk; exact .inl ⟨e, rfl⟩
    · rename_i e; exact .inr ⟨e, hk⟩
  refine { h0 with live := fun k c hk => ?_, mem := fun k c hk => ?_, base := fun k c hk => ?_, frz := fun k c hk => ?_, inj := fun k j c c' hk hj hn => ?_ }
  · rcases e hk with ⟨rfl, rfl⟩ | ⟨_, hk⟩
    · exact .inl rfl
    · exact h0.live k c hk
  · rcases e hk with ⟨rfl, rfl⟩ | ⟨_, hk⟩
    · rw [hhi]; exact h1
    · exact h0.mem k c hk
  · rcases e hk with ⟨rfl, rfl⟩ | ⟨_, hk⟩
    · rw [hhi]; exact h2
    · exact h0.base k c hk
  · rcases e hk with ⟨rfl, rfl⟩ | ⟨_, hk⟩
    · rw [hhi, h3]
      exact ⟨fun h => Bool.noConfusion h, fun h => absurd h h4⟩
    · exact h0.frz k c hk
  · rcases e hk with ⟨rfl, rfl⟩ | ⟨_, hk'⟩
    · rcases e hj with ⟨rfl, rfl⟩ | ⟨_, hj'⟩
      · exact absurd rfl hn
      · rw [hhi, hh j c' hj']
        exact Ne.symm (h5 j c' hj')
    · rcases e hj with ⟨rfl, rfl⟩ | ⟨_, hj'⟩
      · rw [hhi, hh k c hk']
        exact h5 k c hk'
      · exact h0.inj k j c c' hk' hj' hn
theorem Sim.write (h : Sim W0 R0 ns D s E a w) {w' : World} {i : Nat} {b b' : Blk} (hi : s.mem i = some b) (hf : b.frz = false) (hf' : b'.frz = false) (hg : w.grownBy w' (some (E.home i).blk)) (hh : Holds E w' (E.home i) b') :
    Sim W0 R0 ns D { s with mem := setMem s.mem i (some b') } E a w' := by
  have hro : ¬ E.ro (E.home i).blk := fun k => by have := (h.frz i b hi).2 k; rw [hf] at this; cases this
  have hw : ∀ c, E.ro c → w'.heap[c]? = w.heap[c]? := fun c hc => hg.block c (h.rlt c hc) (fun e => hro (Option.some.inj e ▸ hc))
  have hb : Kept W0.U w w' := ⟨hg.os, hg.tape, hg.output, hg.size, fun k hk => hg.block k (Nat.lt_of_lt_of_le (W0.lt k hk) h.below.size) (fun e => h.base i b hi (Option.some.inj e ▸ hk))⟩
  have e : ∀ {k c}, setMem s.mem i (some b') k = some c → (k = i ∧ c = b') ∨ (k ≠ i ∧ s.mem k = some c) := fun {k c} hk => by
    unfold setMem at hk
    split at hk
    · rename_i e; cases hk; exact .inl ⟨e, rfl⟩
    · rename_i e; exact .inr ⟨e, hk⟩
  have e' : ∀ {k c}, setMem s.mem i (some b') k = some c → ∃ c0, s.mem k = some c0 := fun {k c} hk => by
    rcases e hk with ⟨rfl, _⟩ | ⟨_, hk⟩
    · exact ⟨b, hi⟩
    · exact ⟨c, hk⟩
  refine ⟨h.below.trans hb, h.ro0, h.ro1, fun c hc => Nat.lt_of_lt_of_le (h.rlt c hc) hg.size, h.size, h.dfr, fun t => (h.slot t).keep (Env.le.refl E) hw, h.dom, fun k c hk => ?_, fun k c hk => ?_, fun k c hk => ?_, fun k c hk => ?_, fun k j c c' hk hj hn => ?_, h.le0, fun b hb => ⟨(h.re0 b hb).1, (hw b (h.re0 b hb).1).trans (h.re0 b hb).2⟩⟩
  · obtain ⟨c0, hk⟩ := e' hk; exact h.live k c0 hk
  · rcases e hk with ⟨rfl, rfl⟩ | ⟨hne, hk⟩
    · exact hh
    · exact (h.mem k c hk).keep (Env.le.refl E) hw (hg.block _ (h.mem k c hk).lt (fun e => h.inj k i c b hk hi hne (Option.some.inj e)))
  · obtain ⟨c0, hk⟩ := e' hk; exact h.base k c0 hk
  · rcases e hk with ⟨rfl, rfl⟩ | ⟨hne, hk⟩
    · rw [hf']
      exact ⟨fun h => Bool.noConfusion h, fun h => absurd h hro⟩
    · exact h.frz k c hk
  · obtain ⟨c0, hk⟩ := e' hk
    obtain ⟨c1, hj⟩ := e' hj
    exact h.inj k j c0 c1 hk hj hn
theorem Sim.freeze (h : Sim W0 R0 ns D s E a w) {i : Nat} {b0 : Blk} (hi : s.mem i = some b0) :
    ∃ E', E.le E' ∧ Sim W0 R0 ns D { s with mem := setMem s.mem i (some (frzB b0)) } E' a w ∧ E'.ro (E.home i).blk ∧ E'.home = E.home ∧ E'.dom = E.dom := by
  let E' : Env := { E with ro := fun b => b = (E.home i).blk ∨ E.ro b }
  have hE : E.le E' := ⟨fun _ h => .inr h, fun _ h => h, fun _ _ => rfl⟩
  have e : ∀ {k c}, setMem s.mem i (some (frzB b0)) k = some c → (k = i ∧ c = frzB b0) ∨ (k ≠ i ∧ s.mem k = some c) := fun {k c} hk => by
    unfold setMem at hk
    split at hk
    · rename_i e; cases hk; exact .inl ⟨e, rfl⟩
    · rename_i e; exact .inr ⟨e, hk⟩
  have e' : ∀ {k c}, setMem s.mem i (some (frzB b0)) k = some c → ∃ c0, s.mem k = some c0 := fun {k c} hk => by
    rcases e hk with ⟨rfl, _⟩ | ⟨_, hk⟩
    · exact ⟨_, hi⟩
    · exact ⟨c, hk⟩
  have hlt := (h.mem i _ hi).lt
  refine ⟨E', hE, ⟨h.below, fun b hb => .inr (h.ro0 b hb), fun b hb => ?_, fun b hb => ?_, h.size, h.dfr, fun t => (h.slot t).keep hE (fun _ _ => rfl), h.dom, fun k c hk => ?_, fun k c hk => ?_, fun k c hk => ?_, fun k c hk => ?_, fun k j c c' hk hj hn => ?_, h.le0, fun b hb => ⟨.inr (h.re0 b hb).1, (h.re0 b hb).2⟩⟩, .inl rfl, rfl, rfl⟩
  · rcases hb with rfl | hb
    · exact .inr (h.base i _ hi)
    · exact h.ro1 b hb
  · rcases hb with rfl | hb
    · exact hlt
    · exact h.rlt b hb
  · obtain ⟨c0, hk⟩ := e' hk; exact h.live k c0 hk
  · rcases e hk with ⟨rfl, rfl⟩ | ⟨hne, hk⟩
    · have h1 := (h.mem k _ hi).keep hE (fun _ _ => rfl) rfl
      cases h1 with
      | box _ _ _ cur h1 h2 h3 h4 => exact .box _ _ _ cur h1 h2 h3 h4
      | row _ _ _ _ cur h1 h2 h3 h4 h5 h6 h7 h8 => exact .row _ _ _ _ cur h1 h2 h3 h4 h5 h6 h7 h8
      | loop _ _ _ _ _ _ _ _ r g h1 h2 h3 h4 h5 h6 h7 h8 => exact .loop _ _ _ _ _ _ _ _ r g h1 h2 h3 h4 h5 h6 h7 h8
      | map _ _ _ ents h1 h2 h3 => exact .map _ _ _ ents h1 h2 h3
      | part _ _ _ _ cur h0 h1 h2 h3 h4 => exact .part _ _ _ _ cur h0 h1 h2 h3 h4
      | iter _ _ _ _ _ arr h1 h2 h3 h4 => exact .iter _ _ _ _ _ arr h1 h2 h3 h4
    · exact (h.mem k c hk).keep hE (fun _ _ => rfl) rfl
  · obtain ⟨c0, hk⟩ := e' hk; exact h.base k c0 hk
  · rcases e hk with ⟨rfl, rfl⟩ | ⟨hne, hk⟩
    · exact ⟨fun _ => .inl rfl, fun _ => frzB_frz _⟩
    · refine (h.frz k c hk).trans ⟨fun h => .inr h, fun h' => ?_⟩
      rcases h' with h' | h'
      · exact absurd h' (h.inj k i c _ hk hi hne)
      · exact h'
  · obtain ⟨c0, hk⟩ := e' hk
    obtain ⟨c1, hj⟩ := e' hj
    exact h.inj k j c0 c1 hk hj hn
end Go.Proofs.Ytdkneonokbakjaa.Eng

namespace Go.Proofs.Ytdkneonokbakjaa.Eng
open Go.RowKit
inductive TK where
  | int (k : IntKind)
  | bool
  | cell
  | slice (e : TypeId)
  | struct (fs : List (Nat × TypeId))
  | array (n : Nat) (e : TypeId)
def TK.agg : TK → Bool
  | .struct _ | .array _ _ => true
  | _ => false
structure TI where
  size : Nat
  bytes : Nat
  zero : List Value
  kind : TK
  eqk : List IntKind := []
abbrev Tab := TypeId → Option TI
def aggInts (ks : List IntKind) (ns : List Int) : Value := .agg (List.zipWith Value.int ks ns).toArray
structure TiOk (P : Program) (t : TypeId) (i : TI) : Prop where
  info : ∃ inf z, P.info? t = some inf ∧ inf.size = i.size ∧ inf.bytes = i.bytes ∧ inf.zero = some z ∧ z.cells = i.zero.toArray
  one : ∀ v ∈ i.zero, v.oneCell' = true
  len : i.zero.length = i.size
  pos : 0 < i.size
  und : match i.kind with
    | .int k => P.underlying t = some (.int k)
    | .bool => P.underlying t = some .bool
    | .cell => ∃ d, P.underlying t = some d ∧ (∀ fs, d ≠ .struct fs) ∧ ∀ n e, d ≠ .array n e
    | .slice e => P.underlying t = some (.slice e)
    | .struct fs => ∃ fields, P.underlying t = some (.struct fields) ∧ fields.toList.map (fun f => (f.offset, f.type)) = fs
    | .array n e => P.underlying t = some (.array n e)
  single : i.kind.agg = false → i.size = 1
  eqs : i.eqk ≠ [] → ∀ (w : World) (x y : Operand) (m n : List Int), m.length = i.eqk.length → n.length = i.eqk.length →
    (do eqGuard .eql t x y (aggInts i.eqk m) (aggInts i.eqk n); binOp .eql t (aggInts i.eqk m) (aggInts i.eqk n) : Sem Value).run P w = .ok (.bool (decide (m = n))) w ∧
    (do eqGuard .neq t x y (aggInts i.eqk m) (aggInts i.eqk n); binOp .neq t (aggInts i.eqk m) (aggInts i.eqk n) : Sem Value).run P w = .ok (.bool (decide (m ≠ n))) w
def TabOk (P : Program) (T : Tab) : Prop := ∀ t i, T t = some i → TiOk P t i
theorem TiOk.isAgg {P : Program} {t : TypeId} {i : TI} (h : TiOk P t i) (w : World) : (isAgg t).run P w = .ok i.kind.agg w := by
  have hu := h.und
  unfold Go.isAgg
  cases hk : i.kind with
  | int k => rw [hk] at hu; simp [run_underlying hu, TK.agg]
  | bool => rw [hk] at hu; simp [run_underlying hu, TK.agg]
  | cell =>
    rw [hk] at hu
    obtain ⟨d, hd, h1, h2⟩ := hu
    simp only [Sem.run_bind, run_underlying hd, Result.andThen_ok, TK.agg]
    cases d <;> first | rfl | exact absurd rfl (h1 _) | exact absurd rfl (h2 _ _)
  | slice e => rw [hk] at hu; simp [run_underlying hu, TK.agg]
  | struct fs => rw [hk] at hu; obtain ⟨fields, hd, _⟩ := hu; simp [run_underlying hd, TK.agg]
  | array n e => rw [hk] at hu; simp [run_underlying hu, TK.agg]
theorem TiOk.sizeOf {P : Program} {t : TypeId} {i : TI} (h : TiOk P t i) (w : World) : (Go.sizeOf t).run P w = .ok i.size w := by
  obtain ⟨inf, z, h1, h2, _⟩ := h.info
  simp [Go.sizeOf, typeInfo, h1, h2]
def cD : Value → Dat
  | .slice none 0 0 => .list []
  | v => .val v
def cSV : Value → SV
  | .slice none 0 0 => .nilS
  | v => .d (.val v)
theorem cD_rep {ro : Nat → Prop} {w : World} {v : Value} (h : v.oneCell' = true) : RepD ro w (cD v) v ∧ (cD v).one = true := by
  unfold cD
  split
  · exact ⟨.list [] none 0 (fun _ _ => undef) (Nat.le_refl _) (by simp) (by simp) (fun h => absurd h (by simp)) (by simp), rfl⟩
  · exact ⟨.val _ h, rfl⟩
theorem cSV_rep {E : Env} {w : World} {v : Value} (h : v.oneCell' = true) : Rep E w (cSV v) v ∧ (cSV v).one = true := by
  unfold cSV
  split
  · exact ⟨.nilS, rfl⟩
  · exact ⟨.d _ _ (.val _ h), rfl⟩
def constSV : Value → Option SV
  | .agg cs => if cs.toList.all Value.oneCell' then some (.agg (cs.toList.map cSV)) else none
  | .tuple _ => none
  | v => some (cSV v)
theorem constSV_rep {E : Env} {w : World} {v : Value} {x : SV} (h : constSV v = some x) : Rep E w x v := by
  have key : ∀ v : Value, v.oneCell' = true → some (cSV v) = some x → Rep E w x v := fun v h1 h2 => by cases h2; exact (cSV_rep h1).1
  cases v with
  | agg cs =>
    simp only [constSV] at h
    split at h
    · rename_i h1
      cases h
      rw [List.all_eq_true] at h1
      refine .agg _ _ (by simp) (fun c hc => ?_) fun i c v hc hv => ?_
      · obtain ⟨u, hu, rfl⟩ := List.mem_map.1 hc
        exact (cSV_rep (E := E) (w := w) (h1 u hu)).2
      · rw [List.getElem?_map, Array.getElem?_toList, hv] at hc
        cases hc
        exact (cSV_rep (h1 v (by rw [Array.mem_toList_iff]; exact Array.mem_of_getElem? hv))).1
    · cases h
  | tuple => cases h
  | _ => exact key _ rfl h
def opd (ns : Nat) (s : St) : Operand → Option SV
  | .tmp t => if t < ns then some (s.slots t) else none
  | .const v => constSV v
  | .func f => some (.fn f [] [])
  | _ => none
variable {W0 : Fix} {R0 : Nat → Prop} {ns : Nat} {D : Nat → Prop} {s : St} {E : Env} {a : Act} {w : World}
theorem Sim.opd (h : Sim W0 R0 ns D s E a w) {x : Operand} {v : SV} (hx : opd ns s x = some v) : Rep E w v (a.eval x) := by
  cases x with
  | tmp t =>
    simp only [Eng.opd] at hx
    split at hx
    · rename_i hlt; cases hx; have := h.slot t; rwa [if_pos hlt] at this
    · cases hx
  | const c => exact constSV_rep hx
  | global => cases hx
  | func f => cases hx; exact .fn f [] [] _ _ rfl rfl (fun _ _ _ hc => by simp at hc) (fun _ _ _ hc => by simp at hc)
def SV.cells : SV → List SV
  | .d (.agg ds) => ds.map .d
  | .agg cs => cs
  | x => [x]
def SV.fit : SV → Bool
  | .und | .d (.tup _) | .tup _ => false
  | _ => true
theorem Rep.cells {x : SV} {v : Value} (h : Rep E w x v) (hf : x.fit = true) : v.cells.size = x.cells.length ∧ (∀ c ∈ x.cells, c.one = true) ∧ ∀ (j : Nat) c u, x.cells[j]? = some c → v.cells[j]? = some u → Rep E w c u := by
  have single : ∀ {x : SV} {v : Value}, Rep E w x v → x.one = true → x.cells = [x] → v.cells = #[v] → v.cells.size = x.cells.length ∧ (∀ c ∈ x.cells, c.one = true) ∧ ∀ (j : Nat) c u, x.cells[j]? = some c → v.cells[j]? = some u → Rep E w c u := by
    intro x v h h1 hx hv
    rw [hx, hv]
    refine ⟨rfl, by simp [h1], fun j c u hc hu => ?_⟩
    match j with
    | 0 => simp at hc hu; subst hc; subst hu; exact h
    | j + 1 => simp at hc
  cases h with
  | und => cases hf
  | d x v h =>
    cases h with
    | val v h => exact single (.d _ _ (.val v h)) rfl rfl (by cases v <;> first | rfl | cases h)
    | agg cs vs h1 h2 h3 =>
      refine ⟨by simpa [SV.cells, Value.cells] using h1, fun c hc => ?_, fun j c u hc hu => ?_⟩
      · obtain ⟨d, hd, rfl⟩ := List.mem_map.1 hc
        exact h2 d hd
      · simp only [SV.cells, List.getElem?_map, Option.map_eq_some_iff] at hc
        obtain ⟨d, hd, rfl⟩ := hc
        exact .d _ _ (h3 j d u hd hu)
    | tup => cases hf
    | list rows A c f h1 h2 h3 h4 h5 => exact single (.d _ _ (.list rows A c f h1 h2 h3 h4 h5)) rfl rfl rfl
    | any v h => exact single (.d _ _ (.any v h)) rfl rfl (by cases v <;> first | rfl | cases h)
  | agg cs vs h1 h2 h3 => exact ⟨h1, h2, h3⟩
  | nilS => exact single .nilS rfl rfl rfl
  | lin id n h1 h2 h3 => exact single (.lin id n h1 h2 h3) rfl rfl rfl
  | own id n z h1 h2 => exact single (.own id n z h1 h2) rfl rfl rfl
  | rptr cs b off f h1 h2 h3 h4 => exact single (.rptr cs b off f h1 h2 h3 h4) rfl rfl rfl
  | ptr id i j h => exact single (.ptr id i j h) rfl rfl rfl
  | fn f xs ys us vs h1 h2 h3 h4 => exact single (.fn f xs ys us vs h1 h2 h3 h4) rfl rfl rfl
  | yield id h => exact single (.yield id h) rfl rfl rfl
  | sl id off n c o k h hk ho hn => exact single (.sl id off n c o k h hk ho hn) rfl rfl rfl
  | mp id h => exact single (.mp id h) rfl rfl rfl
  | full rows A h => exact single (.full rows A h) rfl rfl rfl
  | tup => cases hf
def mk (agg : Bool) (cs : List SV) : Option SV := if agg then some (.agg cs) else match cs with
  | [c] => some c
  | _ => none
def mkD (agg : Bool) (cs : List Dat) : Option SV := if agg then some (.d (.agg cs)) else match cs with
  | [c] => some (.d c)
  | _ => none
def esc1 (m : Nat → Option Blk) : SV → Option (Dat × List Nat)
  | .d x => some (x, [])
  | .nilS => some (.list [], [])
  | .fn .. => some (.any, [])
  | .own id n _ => match m id with
    | some (.row _ _ rows _) => if n = rows.length then some (.list rows, [id]) else none
    | _ => none
  | _ => none
def escL (m : Nat → Option Blk) : List SV → Option (List Dat × List Nat)
  | [] => some ([], [])
  | x :: l => match esc1 m x, escL m l with
    | some (d, i), some (ds, is) => some (d :: ds, i ++ is)
    | _, _ => none
def esc (m : Nat → Option Blk) : SV → Option (Dat × List Nat)
  | .agg cs => match escL m cs with
    | some (ds, is) => some (.agg ds, is)
    | none => none
  | x => esc1 m x
def frzM (m : Nat → Option Blk) : List Nat → Nat → Option Blk
  | [] => m
  | i :: l => frzM (setMem m i ((m i).map frzB)) l
theorem frzM_row {m : Nat → Option Blk} : ∀ {l : List Nat} {i : Nat} {t : TypeId} {z : Nat} {rows : List (List Dat)} {f : Bool}, m i = some (.row t z rows f) → ∃ f', frzM m l i = some (.row t z rows f')
  | [], i, t, z, rows, f, h => ⟨f, h⟩
  | k :: l, i, t, z, rows, f, h => by
    simp only [frzM]
    by_cases e : i = k
    · subst e
      exact frzM_row (l := l) (f := true) (by simp [setMem, h, frzB])
    · exact frzM_row (l := l) (f := f) (by simp [setMem, e, h])
theorem list_of_row {E : Env} {w : World} {h : Home} {ty : TypeId} {esz : Nat} {rows : List (List Dat)} {f : Bool} (hh : Holds E w h (.row ty esz rows f)) (hro : E.ro h.blk) : RepD E.ro w (.list rows) (.slice (some ⟨h.blk, 0, none⟩) rows.length h.cap) := by
  cases hh with
  | row _ _ _ _ cur h1 h2 h3 h4 h5 h6 h7 h8 =>
    refine .list rows _ _ (fun i j => cur.getD (i * esz + j) undef) h4 h5 h7 (fun hn => ⟨h.blk, 0, esz, rfl, hro, h6, fun i j hi hj => ?_⟩) fun i j r c hr hc => ?_
    · have hlt : i * esz + j < cur.size := by
        rw [h3]
        calc i * esz + j < i * esz + esz := by omega
          _ = (i + 1) * esz := by rw [Nat.add_mul, Nat.one_mul]
          _ ≤ h.cap * esz := Nat.mul_le_mul_right _ (by omega)
      rw [cell_of_row w h.blk _ cur ty (0, 0) h1, Nat.zero_add, Array.getElem?_eq_getElem hlt]
      simp [hlt]
    · have hi := (List.getElem?_eq_some_iff.1 hr).1
      have hj := (List.getElem?_eq_some_iff.1 hc).1
      have hz := h6 r (List.mem_of_getElem? hr)
      have hlt : i * esz + j < cur.size := by
        rw [h3]
        calc i * esz + j < i * esz + esz := by omega
          _ = (i + 1) * esz := by rw [Nat.add_mul, Nat.one_mul]
          _ ≤ h.cap * esz := Nat.mul_le_mul_right _ (by omega)
      refine h8 i j r c _ hr hc ?_
      rw [Array.getElem?_eq_getElem hlt]
      simp [hlt]
theorem Sim.freezes : ∀ (l : List Nat) {s : St} {E : Env}, Sim W0 R0 ns D s E a w → (∀ i ∈ l, ∃ t z rows f, s.mem i = some (.row t z rows f)) →
    ∃ E', E.le E' ∧ Sim W0 R0 ns D { s with mem := frzM s.mem l } E' a w ∧ (∀ i ∈ l, E'.ro (E'.home i).blk) ∧ E'.home = E.home ∧ E'.dom = E.dom
  | [], s, E, h, _ => ⟨E, Env.le.refl E, h, by simp, rfl, rfl⟩
  | i :: l, s, E, h, hl => by
    obtain ⟨t, z, rows, f, hi⟩ := hl i List.mem_cons_self
    obtain ⟨E1, h1, h2, h3, h4, h5⟩ := h.freeze hi
    have hm : setMem s.mem i ((s.mem i).map frzB) = setMem s.mem i (some (.row t z rows true)) := by rw [hi]; rfl
    obtain ⟨E2, k1, k2, k3, k4, k5⟩ := Sim.freezes l h2 fun k hk => by
      obtain ⟨t', z', rows', f', hk'⟩ := hl k (List.mem_cons_of_mem _ hk)
      by_cases e : k = i
      · subst e; exact ⟨t, z, rows, true, by simp [setMem, frzB]⟩
      · exact ⟨t', z', rows', f', by simp [setMem, e, hk']⟩
    refine ⟨E2, h1.trans k1, ?_, fun k hk => ?_, k4.trans h4, k5.trans h5⟩
    · simp only [frzM]
      rw [hm]
      exact k2
    · rcases List.mem_cons.1 hk with rfl | hk
      · rw [k4, h4]; exact k1.ro _ h3
      · exact k3 k hk
theorem esc1_ids {m : Nat → Option Blk} {x : SV} {d : Dat} {is : List Nat} (h : esc1 m x = some (d, is)) : ∀ i ∈ is, ∃ t z rows f, m i = some (.row t z rows f) := by
  unfold esc1 at h
  split at h
  · cases h; simp
  · cases h; simp
  · cases h; simp
  · split at h
    · rename_i hm
      split at h
      · cases h
        intro i hi
        rw [List.mem_singleton] at hi
        subst hi
        exact ⟨_, _, _, _, hm⟩
      · cases h
    · cases h
  · cases h
theorem escL_ids {m : Nat → Option Blk} : ∀ {l : List SV} {ds : List Dat} {is : List Nat}, escL m l = some (ds, is) → ∀ i ∈ is, ∃ t z rows f, m i = some (.row t z rows f)
  | [], ds, is, h => by cases h; simp
  | x :: l, ds, is, h => by
    simp only [escL] at h
    split at h
    · rename_i h1 h2
      cases h
      intro i hi
      rcases List.mem_append.1 hi with hi | hi
      · exact esc1_ids h1 i hi
      · exact escL_ids h2 i hi
    · cases h
theorem esc_ids {m : Nat → Option Blk} {x : SV} {d : Dat} {is : List Nat} (h : esc m x = some (d, is)) : ∀ i ∈ is, ∃ t z rows f, m i = some (.row t z rows f) := by
  unfold esc at h
  split at h
  · split at h
    · rename_i h1; cases h; exact escL_ids h1
    · cases h
  · exact esc1_ids h
theorem esc1_rep {E : Env} {w : World} {m m0 : Nat → Option Blk} {x : SV} {d : Dat} {is : List Nat} {v : Value} (h : esc1 m0 x = some (d, is)) (hm : ∀ i t z rows f, m0 i = some (.row t z rows f) → ∃ f', m i = some (.row t z rows f'))
    (hl : ∀ i b, m i = some b → Holds E w (E.home i) b) (hr : ∀ i ∈ is, E.ro (E.home i).blk) (hx : Rep E w x v) : RepD E.ro w d v := by
  unfold esc1 at h
  split at h
  · cases h
    cases hx with
    | d x v hx => exact hx
  · cases h
    cases hx
    exact .list [] none 0 (fun _ _ => undef) (Nat.le_refl _) (by simp) (by simp) (fun h => absurd h (by simp)) (by simp)
  · cases h
    exact .any v (hx.one rfl)
  · split at h
    · rename_i hm0
      split at h
      · rename_i hn
        cases h
        cases hx
        obtain ⟨f', hm'⟩ := hm _ _ _ _ _ hm0
        rw [hn]
        exact list_of_row (hl _ _ hm') (hr _ (List.mem_singleton.2 rfl))
      · cases h
    · cases h
  · cases h
theorem escL_rep {E : Env} {w : World} {m m0 : Nat → Option Blk} (hm : ∀ i t z rows f, m0 i = some (.row t z rows f) → ∃ f', m i = some (.row t z rows f'))
    (hl : ∀ i b, m i = some b → Holds E w (E.home i) b) : ∀ {xs : List SV} {ds : List Dat} {is : List Nat}, escL m0 xs = some (ds, is) → (∀ i ∈ is, E.ro (E.home i).blk) →
    ds.length = xs.length ∧ ∀ (j : Nat) x d v, xs[j]? = some x → ds[j]? = some d → Rep E w x v → RepD E.ro w d v ∧ (x.one = true → d.one = true)
  | [], ds, is, h, _ => by cases h; exact ⟨rfl, by simp⟩
  | x :: l, ds, is, h, hr => by
    simp only [escL] at h
    split at h
    · rename_i d i ds' is' h1 h2
      cases h
      obtain ⟨k1, k2⟩ := escL_rep hm hl h2 fun i hi => hr i (List.mem_append_right _ hi)
      refine ⟨by simp [k1], fun j y e v hy he hv => ?_⟩
      match j with
      | 0 =>
        simp only [List.getElem?_cons_zero, Option.some.injEq] at hy he
        subst hy; subst he
        refine ⟨esc1_rep h1 hm hl (fun i hi => hr i (List.mem_append_left _ hi)) hv, fun ho => ?_⟩
        unfold esc1 at h1
        split at h1
        · cases h1; exact ho
        · cases h1; rfl
        · cases h1; rfl
        · split at h1
          · split at h1
            · cases h1; rfl
            · cases h1
          · cases h1
        · cases h1
      | j + 1 =>
        simp only [List.getElem?_cons_succ] at hy he
        exact k2 j y e v hy he hv
    · cases h
theorem esc_rep {E : Env} {w : World} {m m0 : Nat → Option Blk} {x : SV} {d : Dat} {is : List Nat} {v : Value} (h : esc m0 x = some (d, is)) (hm : ∀ i t z rows f, m0 i = some (.row t z rows f) → ∃ f', m i = some (.row t z rows f'))
    (hl : ∀ i b, m i = some b → Holds E w (E.home i) b) (hr : ∀ i ∈ is, E.ro (E.home i).blk) (hx : Rep E w x v) : RepD E.ro w d v := by
  unfold esc at h
  split at h
  · rename_i cs
    split at h
    · rename_i ds is' h1
      cases h
      obtain ⟨k1, k2⟩ := escL_rep hm hl h1 hr
      cases hx with
      | agg _ vs h1 h2 h3 =>
        refine .agg _ _ (by rw [h1, k1]) (fun c hc => ?_) fun i c v hc hv => ?_
        · obtain ⟨i, hi, rfl⟩ := List.getElem_of_mem hc
          have hi1 : i < cs.length := by omega
          have hi2 : i < vs.size := by omega
          exact (k2 i cs[i] _ vs[i] (List.getElem?_eq_getElem hi1) (List.getElem?_eq_getElem hi) (h3 i _ _ (List.getElem?_eq_getElem hi1) (Array.getElem?_eq_getElem hi2))).2 (h2 _ (List.getElem_mem hi1))
        · have hi1 : i < cs.length := by have := (List.getElem?_eq_some_iff.1 hc).1; omega
          exact (k2 i cs[i] c v (List.getElem?_eq_getElem hi1) hc (h3 i _ _ (List.getElem?_eq_getElem hi1) hv)).1
    · cases h
  · exact esc1_rep h hm hl hr hx
end Go.Proofs.Ytdkneonokbakjaa.Eng

namespace Go.Proofs.Ytdkneonokbakjaa.Eng
open Go.RowKit
def intBin (op : BinOp) (k : IntKind) (a b : Int) : Option Value :=
  match op with
  | .add => some (.int k (k.wrap (a + b)))
  | .sub => some (.int k (k.wrap (a - b)))
  | .mul => some (.int k (k.wrap (a * b)))
  | .quo => if b = 0 then none else some (.int k (k.wrap (a.tdiv b)))
  | .rem => if b = 0 then none else some (.int k (a.tmod b))
  | .eql => some (.bool (decide (a = b)))
  | .neq => some (.bool (decide (a ≠ b)))
  | .lss => some (.bool (decide (a < b)))
  | .leq => some (.bool (decide (a ≤ b)))
  | .gtr => some (.bool (decide (b < a)))
  | .geq => some (.bool (decide (b ≤ a)))
  | _ => none
def intsOf : List SV → Option (List IntKind × List Int)
  | [] => some ([], [])
  | .d (.val (.int k n)) :: l => match intsOf l with
    | some (ks, ns) => some (k :: ks, n :: ns)
    | none => none
  | _ => none
def binSV (T : Tab) (op : BinOp) (t : TypeId) (x y : SV) : Option SV :=
  match x, y with
  | .d (.val (.int k a)), .d (.val (.int k' b)) => if k = k' then (intBin op k a b).map fun v => .d (.val v) else none
  | .d (.val (.bool a)), .d (.val (.bool b)) => match T t with
    | some i => match i.kind, op with
      | .bool, .eql => some (.d (.val (.bool (a == b))))
      | .bool, .neq => some (.d (.val (.bool (a != b))))
      | _, _ => none
    | none => none
  | x, y => match T t with
    | some i => match intsOf x.cells, intsOf y.cells with
      | some (k1, n1), some (k2, n2) => if i.eqk ≠ [] ∧ k1 = i.eqk ∧ k2 = i.eqk ∧ x.one = false ∧ y.one = false ∧ x.fit = true ∧ y.fit = true then
          match op with
          | .eql => some (.d (.val (.bool (decide (n1 = n2)))))
          | .neq => some (.d (.val (.bool (decide (n1 ≠ n2)))))
          | _ => none
        else none
      | _, _ => none
    | none => none
def fieldOf (i : TI) (f : Nat) : Option (Nat × TypeId) := match i.kind with
  | .struct fs => fs[f]?
  | _ => none
def loadSV (m : Nat → Option Blk) (i : TI) : SV → Option SV
  | .rptr cs => if i.size ≤ cs.length then mkD i.kind.agg (cs.take i.size) else none
  | .ptr id r j => match m id with
    | some (.box _ cells _) => if r = 0 ∧ j + i.size ≤ cells.length then mk i.kind.agg ((cells.drop j).take i.size) else none
    | some (.row _ z rows _) => match rows[r]? with
      | some row => if j + i.size ≤ row.length then mkD i.kind.agg ((row.drop j).take i.size) else none
      | none => none
    | _ => none
  | _ => none
def indexSV (T : Tab) (i : TI) (k : Int) (x : SV) : Option SV :=
  match i.kind with
  | .slice e => match T e with
    | some ie => match x with
      | .d (.list rows) => match rows[k.toNat]? with
        | some r => if 0 ≤ k ∧ r.length = ie.size then some (.rptr r) else none
        | none => none
      | .own id n z => if 0 ≤ k ∧ k < n ∧ z = ie.size then some (.ptr id k.toNat 0) else none
      | .lin id n => if 0 ≤ k ∧ k < n ∧ ie.size = 1 then some (.ptr id 0 k.toNat) else none
      | _ => none
    | none => none
  | .array n e => match T e with
    | some ie => if 0 ≤ k ∧ k < n then match x with
      | .rptr cs => some (.rptr (cs.drop (k.toNat * ie.size)))
      | .ptr id r j => some (.ptr id r (j + k.toNat * ie.size))
      | _ => none
      else none
    | none => none
  | _ => none
def partSV (i : TI) (off : Nat) (x : SV) : Option SV :=
  if x.one = false ∧ x.fit = true ∧ off + i.size ≤ x.cells.length then mk i.kind.agg ((x.cells.drop off).take i.size) else none
def intOp (v : Option SV) : Option (IntKind × Int) := match v with
  | some (.d (.val (.int k n))) => some (k, n)
  | _ => none
def boundOr (v : Option SV) (n : Int) : Option Int := match v with
  | none => some n
  | some v => match intOp (some v) with
    | some (_, k) => some k
    | none => none
def sliceSV (ie : TI) (x : SV) (lo hi : Option SV) : Option SV :=
  match x with
  | .d (.list rows) =>
    match boundOr lo 0, boundOr hi rows.length with
    | some l, some h => if 0 ≤ l ∧ l ≤ h ∧ h ≤ rows.length ∧ ∀ r ∈ rows, r.length = ie.size then some (.d (.list ((rows.take h.toNat).drop l.toNat))) else none
    | _, _ => none
  | _ => none
def lenSV : SV → Option Nat
  | .d (.list rows) => some rows.length
  | .own _ n _ => some n
  | .nilS => some 0
  | .lin _ n => some n
  | _ => none
def evList (ev : Operand → Option SV) : List Operand → Option (List SV)
  | [] => some []
  | x :: l => match ev x, evList ev l with
    | some v, some r => some (v :: r)
    | _, _ => none
def aopR (T : Tab) (m : Nat → Option Blk) (ev : Operand → Option SV) : Op → Option SV
  | .move x | .assign x => ev x
  | .pick c x y => match ev c, ev x, ev y with
    | some (.d (.val (.bool t))), some u, some v => some (if t then u else v)
    | _, _, _ => none
  | .binOp op t x y _ => match ev x, ev y with
    | some u, some v => match op with
      | .shl | .shr => none
      | _ => binSV T op t u v
    | _, _ => none
  | .unOp op _ x => match op, ev x with
    | .not, some (.d (.val (.bool b))) => some (.d (.val (.bool !b)))
    | .neg, some (.d (.val (.int k n))) => some (.d (.val (.int k (k.wrap (0 - n)))))
    | _, _ => none
  | .convert src dst x => match T src, T dst, ev x with
    | some _, some i, some (.d (.val (.int _ n))) => match i.kind with
      | .int k => some (.d (.val (.int k (k.wrap n))))
      | _ => none
    | _, _, _ => none
  | .nilCheck x => match ev x with
    | some (.rptr cs) => some (.rptr cs)
    | some (.ptr i r j) => some (.ptr i r j)
    | _ => none
  | .fieldAddr s x f => match T s with
    | some i => match fieldOf i f with
      | some (off, ft) => match T ft, ev x with
        | some _, some (.rptr cs) => some (.rptr (cs.drop off))
        | some _, some (.ptr id r j) => some (.ptr id r (j + off))
        | _, _ => none
      | none => none
    | none => none
  | .field s x f => match T s with
    | some i => match fieldOf i f with
      | some (off, ft) => match T ft, ev x with
        | some fi, some v => partSV fi off v
        | _, _ => none
      | none => none
    | none => none
  | .indexAddr t x ix => match T t, ev x, intOp (ev ix) with
    | some i, some v, some (_, k) => indexSV T i k v
    | _, _, _ => none
  | .index t x ix => match T t, ev x, intOp (ev ix) with
    | some i, some v, some (_, k) => match i.kind with
      | .array n e => match T e with
        | some ie => if 0 ≤ k ∧ k < n then partSV ie (k.toNat * ie.size) v else none
        | none => none
      | _ => none
    | _, _, _ => none
  | .extract x i => match ev x with
    | some (.d (.tup cs)) => (cs[i]?).map .d
    | some (.tup cs) => cs[i]?
    | _ => none
  | .slice t x lo hi none => match T t with
    | some i => match i.kind with
      | .slice e => match T e, ev x with
        | some ie, some v => match lo, hi with
          | none, none => sliceSV ie v none none
          | some l, none => match ev l with
            | some lv => sliceSV ie v (some lv) none
            | none => none
          | none, some h => match ev h with
            | some hv => sliceSV ie v none (some hv)
            | none => none
          | some l, some h => match ev l, ev h with
            | some lv, some hv => sliceSV ie v (some lv) (some hv)
            | _, _ => none
        | _, _ => none
      | _ => none
    | none => none
  | .slice t x none (some hi) (some mx) => match T t with
    | some i => match i.kind with
      | .slice e => match T e, ev x, intOp (ev hi), intOp (ev mx) with
        | some ie, some (.d (.list rows)), some (_, h), some (_, n) => if h = rows.length ∧ n = rows.length ∧ ∀ r ∈ rows, r.length = ie.size then some (.full rows) else none
        | _, _, _, _ => none
      | _ => none
    | none => none
  | .load t x => match T t, ev x with
    | some i, some v => loadSV m i v
    | _, _ => none
  | .makeFunc fn first captured => match fn with
    | .func f => match evList ev first.toList, evList ev captured.toList with
      | some a, some b => some (.fn f a b)
      | _, _ => none
    | _ => none
  | .call c => match c.callee, c.args.toList, c.argTypes.toList with
    | .builtin .len, [x], [t] => match T t, ev x with
      | some i, some v => match i.kind, lenSV v with
        | .slice _, some n => some (.d (.val (.int .i64 n)))
        | _, _ => none
      | _, _ => none
    | .builtin .max, [x, y], _ => match ev x, ev y with
      | some (.d (.val (.int k a))), some (.d (.val (.int _ b))) => some (.d (.val (.int k (if b > a then b else a))))
      | _, _ => none
    | .builtin .min, [x, y], _ => match ev x, ev y with
      | some (.d (.val (.int k a))), some (.d (.val (.int _ b))) => some (.d (.val (.int k (if b < a then b else a))))
      | _, _ => none
    | _, _, _ => none
  | _ => none
section
variable {P : Program} {T : Tab} {E : Env} {w : World} {m : Nat → Option Blk}
theorem rep_int {k : IntKind} {n : Int} {v : Value} (h : Rep E w (.d (.val (.int k n))) v) : v = .int k n := by
  cases h with | d _ _ h => cases h; rfl
theorem rep_bool {b : Bool} {v : Value} (h : Rep E w (.d (.val (.bool b))) v) : v = .bool b := by
  cases h with | d _ _ h => cases h; rfl
theorem rep_val {u : Value} (h : u.oneCell' = true) : Rep E w (.d (.val u)) u := .d _ _ (.val u h)
theorem intBin_run {op : BinOp} {k : IntKind} {a b : Int} {v : Value} (h : intBin op k a b = some v) (t : TypeId) (x y : Operand) :
    (do eqGuard op t x y (.int k a) (.int k b); binOp op t (.int k a) (.int k b) : Sem Value).run P w = .ok v w ∧ v.oneCell' = true := by
  unfold intBin at h
  cases op <;> simp only at h <;> first
    | (cases h; done)
    | (cases h; refine ⟨?_, rfl⟩; simp [eqGuard, binOp, Op.intArith, Op.intCmp]; done)
    | (cases h; refine ⟨?_, rfl⟩; simp [eqGuard, binOp, Op.intCmp]; exact rfl)
    | (cases h; refine ⟨?_, rfl⟩; simp [eqGuard, binOp, Op.intCmp, bne]; exact rfl)
    | (split at h; cases h; cases h; rename_i hb; refine ⟨?_, rfl⟩; simp [eqGuard, binOp, Op.intDiv, hb]; done)
theorem intsOf_rep : ∀ {l : List SV} {ks : List IntKind} {ns : List Int}, intsOf l = some (ks, ns) → ∀ (vs : List Value), vs.length = l.length → (∀ (i : Nat) c v, l[i]? = some c → vs[i]? = some v → Rep E w c v) →
    vs = List.zipWith Value.int ks ns ∧ ks.length = l.length ∧ ns.length = l.length
  | [], ks, ns, h, vs, hl, _ => by cases h; cases vs with | nil => exact ⟨rfl, rfl, rfl⟩ | cons => simp at hl
  | x :: l, ks, ns, h, vs, hl, hr => by
    unfold intsOf at h
    split at h
    · rename_i h0; cases h0
    · rename_i k n l' he
      cases he
      split at h
      · rename_i ks' ns' h1
        cases h
        cases vs with
        | nil => simp at hl
        | cons v vs =>
          obtain ⟨e1, e2, e3⟩ := intsOf_rep h1 vs (by simpa using hl) fun i c u hc hu => hr (i + 1) c u (by simpa using hc) (by simpa using hu)
          have e0 := rep_int (hr 0 _ v rfl rfl)
          subst e0
          exact ⟨by simp [← e1], by simp [e2], by simp [e3]⟩
      · cases h
    · cases h
theorem agg_of {x : SV} {v : Value} (h : Rep E w x v) (h1 : x.one = false) (h2 : x.fit = true) : ∃ vs, v = .agg vs ∧ vs.size = x.cells.length ∧ (∀ c ∈ x.cells, c.one = true) ∧ ∀ (j : Nat) c u, x.cells[j]? = some c → vs[j]? = some u → Rep E w c u := by
  have hc := h.cells h2
  cases h with
  | und => cases h2
  | d x v h =>
    cases h with
    | val v h => cases h1
    | agg cs vs => exact ⟨vs, rfl, hc⟩
    | tup => cases h2
    | list => cases h1
    | any => cases h1
  | agg cs vs => exact ⟨vs, rfl, hc⟩
  | nilS => cases h1
  | lin => cases h1
  | own => cases h1
  | rptr => cases h1
  | ptr => cases h1
  | fn => cases h1
  | full => cases h1
  | yield => cases h1
  | sl => cases h1
  | mp => cases h1
  | tup => cases h2
theorem run_equal_bool (t : TypeId) (h : P.underlying t = some .bool) (a b : Bool) : (Op.equal t (.bool a) (.bool b)).run P w = .ok (a == b) w := by
  unfold Op.equal
  rw [show Op.maxDepth = 9999 + 1 from rfl, Op.equalIn]
  simp only [Sem.run_bind, run_underlying h, Result.andThen_ok, Sem.run_pure]
theorem run_bool_eq (t : TypeId) (h : P.underlying t = some .bool) (x y : Operand) (a b : Bool) :
    (do eqGuard .eql t x y (.bool a) (.bool b); binOp .eql t (.bool a) (.bool b) : Sem Value).run P w = .ok (.bool (a == b)) w ∧
    (do eqGuard .neq t x y (.bool a) (.bool b); binOp .neq t (.bool a) (.bool b) : Sem Value).run P w = .ok (.bool (a != b)) w := by
  have e1 : binOp .eql t (.bool a) (.bool b) = (do pure (.bool (← Op.equal t (.bool a) (.bool b)))) := rfl
  have e2 : binOp .neq t (.bool a) (.bool b) = (do pure (.bool (!(← Op.equal t (.bool a) (.bool b))))) := rfl
  have g1 : eqGuard .eql t x y (.bool a) (.bool b) = pure () := rfl
  have g2 : eqGuard .neq t x y (.bool a) (.bool b) = pure () := rfl
  rw [e1, e2, g1, g2]
  simp only [Sem.run_bind, run_equal_bool t h, Result.andThen_ok, Sem.run_pure, bne, and_self]
theorem binSV_run (hT : TabOk P T) {op : BinOp} {t : TypeId} {x y r : SV} {u v : Value} (h : binSV T op t x y = some r) (hx : Rep E w x u) (hy : Rep E w y v) (p q : Operand) :
    ∃ z, (do eqGuard op t p q u v; binOp op t u v : Sem Value).run P w = .ok z w ∧ Rep E w r z := by
  unfold binSV at h
  split at h
  · split at h
    · rename_i hk
      subst hk
      rw [Option.map_eq_some_iff] at h
      obtain ⟨z, hz, rfl⟩ := h
      obtain rfl := rep_int hx
      obtain rfl := rep_int hy
      obtain ⟨h1, h2⟩ := intBin_run (P := P) (w := w) hz t p q
      exact ⟨z, h1, rep_val h2⟩
    · cases h
  · split at h
    · rename_i i hi
      obtain rfl := rep_bool hx
      obtain rfl := rep_bool hy
      have hu := (hT t i hi).und
      split at h
      · rename_i hk
        cases h
        rw [hk] at hu
        exact ⟨_, (run_bool_eq t hu p q _ _).1, rep_val rfl⟩
      · rename_i hk
        cases h
        rw [hk] at hu
        exact ⟨_, (run_bool_eq t hu p q _ _).2, rep_val rfl⟩
      · cases h
    · cases h
  · split at h
    · rename_i i hi
      split at h
      · rename_i k1 n1 k2 n2 h1 h2
        split at h
        · rename_i hc
          obtain ⟨hne, rfl, rfl, ho1, ho2, hf1, hf2⟩ := hc
          obtain ⟨vs, rfl, a1, a2, a3⟩ := agg_of hx ho1 hf1
          obtain ⟨us, rfl, b1, b2, b3⟩ := agg_of hy ho2 hf2
          obtain ⟨e1, l1, m1⟩ := intsOf_rep h1 vs.toList (by simpa using a1) fun i c v hc hv => a3 i c v hc (by simpa using hv)
          obtain ⟨e2, l2, m2⟩ := intsOf_rep h2 us.toList (by simpa using b1) fun i c v hc hv => b3 i c v hc (by simpa using hv)
          have q1 : vs = (List.zipWith Value.int i.eqk n1).toArray := by rw [← e1]
          have q2 : us = (List.zipWith Value.int i.eqk n2).toArray := by rw [← e2]
          have hq := (hT t i hi).eqs hne w p q n1 n2 (by omega) (by omega)
          rw [q1, q2]
          split at h
          · cases h
            exact ⟨_, hq.1, rep_val rfl⟩
          · cases h
            exact ⟨_, hq.2, rep_val rfl⟩
          · cases h
        · cases h
      · cases h
    · cases h
end
end Go.Proofs.Ytdkneonokbakjaa.Eng

namespace Go.Proofs.Ytdkneonokbakjaa.Eng
open Go.RowKit
variable {P : Program} {T : Tab} {E : Env} {w : World} {m : Nat → Option Blk}
def Reps (E : Env) (w : World) (cs : List SV) (vs : List Value) : Prop := vs.length = cs.length ∧ (∀ c ∈ cs, c.one = true) ∧ ∀ (i : Nat) c v, cs[i]? = some c → vs[i]? = some v → Rep E w c v
theorem Reps.mk_ {cs : List SV} {vs : List Value} (h : Reps E w cs vs) {agg : Bool} {r : SV} (hr : mk agg cs = some r) : if agg then Rep E w r (.agg vs.toArray) else ∃ v, vs = [v] ∧ Rep E w r v := by
  obtain ⟨h1, h2, h3⟩ := h
  cases agg with
  | true =>
    simp only [mk, if_true] at hr ⊢
    cases hr
    exact .agg _ _ (by simpa using h1) h2 fun i c v hc hv => h3 i c v hc (by simpa using hv)
  | false =>
    simp only [mk, Bool.false_eq_true, if_false] at hr ⊢
    split at hr
    · cases hr
      match vs, h1 with
      | [v], _ => exact ⟨v, rfl, h3 0 _ v rfl rfl⟩
    · cases hr
theorem Reps.sub {cs : List SV} {vs : List Value} (h : Reps E w cs vs) (off n : Nat) : Reps E w ((cs.drop off).take n) ((vs.drop off).take n) := by
  obtain ⟨h1, h2, h3⟩ := h
  refine ⟨by simp [h1], fun c hc => h2 c (List.mem_of_mem_drop (List.mem_of_mem_take hc)), fun i c v hc hv => ?_⟩
  rw [List.getElem?_take] at hc hv
  split at hc
  · rename_i hi
    rw [if_pos hi, List.getElem?_drop] at hv
    rw [List.getElem?_drop] at hc
    exact h3 _ c v hc hv
  · cases hc
theorem mkD_mk {agg : Bool} {cs : List Dat} {r : SV} (h : mkD agg cs = some r) : (agg = true ∧ r = .d (.agg cs)) ∨ (agg = false ∧ mk agg (cs.map .d) = some r) := by
  cases agg with
  | true => simp only [mkD, if_true] at h; cases h; exact .inl ⟨rfl, rfl⟩
  | false =>
    simp only [mkD, Bool.false_eq_true, if_false] at h
    split at h
    · cases h; exact .inr ⟨rfl, rfl⟩
    · cases h
theorem Reps.mkD_ {cs : List Dat} {vs : List Value} (h : Reps E w (cs.map .d) vs) {agg : Bool} {r : SV} (hr : mkD agg cs = some r) : if agg then Rep E w r (.agg vs.toArray) else ∃ v, vs = [v] ∧ Rep E w r v := by
  rcases mkD_mk hr with ⟨rfl, rfl⟩ | ⟨rfl, h1⟩
  · obtain ⟨h1, h2, h3⟩ := h
    simp only [if_true]
    refine .d _ _ (.agg _ _ (by simpa using h1) (fun c hc => h2 _ (List.mem_map_of_mem hc)) fun i c v hc hv => ?_)
    have := h3 i (.d c) v (by simp [hc]) (by simpa using hv)
    cases this with
    | d _ _ h => exact h
  · exact h.mk_ h1
theorem loadVar_run {t : TypeId} {i : TI} (hi : TiOk P t i) (b off : Nat) (vs : List Value) (hl : vs.length = i.size) (hc : ∀ (j : Nat) v, vs[j]? = some v → w.cell? ⟨b, off + j, none⟩ = some v) :
    ∃ z, (loadVar t ⟨b, off, none⟩).run P w = .ok z w ∧ (if i.kind.agg then z = .agg vs.toArray else vs = [z]) := by
  have hr : (loadCells ⟨b, off, none⟩ vs.length).run P w = .ok vs.toArray w := run_loadCells_list (P := P) w ⟨b, off, none⟩ vs fun j v hv => by rw [Addr.add_lit]; exact hc j v hv
  rw [hl] at hr
  unfold loadVar
  simp only [Sem.run_bind, hi.isAgg, Result.andThen_ok]
  cases hk : i.kind.agg with
  | true => exact ⟨.agg vs.toArray, by simp [hi.sizeOf, hr], by simp⟩
  | false =>
    have h1 := hi.single hk
    match vs, hl.trans h1 with
    | [v], _ =>
      have := hc 0 v rfl
      rw [Nat.add_zero] at this
      exact ⟨v, by simp [this], by simp⟩
theorem Rep.of_if {r : SV} {z : Value} {vs : List Value} {agg : Bool} (h : if agg then Rep E w r (.agg vs.toArray) else ∃ v, vs = [v] ∧ Rep E w r v) (hz : if agg then z = .agg vs.toArray else vs = [z]) : Rep E w r z := by
  cases agg with
  | true => simp only [if_true] at h hz; rw [hz]; exact h
  | false =>
    simp only [Bool.false_eq_true, if_false] at h hz
    obtain ⟨v, h1, h2⟩ := h
    rw [h1] at hz
    cases hz
    exact h2
theorem part_run (hT : TabOk P T) {t : TypeId} {i : TI} (hi : T t = some i) {off : Nat} {x r : SV} {v : Value} (h : partSV i off x = some r) (hx : Rep E w x v) :
    ∃ vs z, v = .agg vs ∧ (part t vs off).run P w = .ok z w ∧ Rep E w r z := by
  have hk := hT t i hi
  unfold partSV at h
  split at h
  · rename_i hc
    obtain ⟨h1, h2, h3⟩ := hc
    obtain ⟨vs, rfl, a1, a2, a3⟩ := agg_of hx h1 h2
    have hR : Reps E w x.cells vs.toList := ⟨by simpa using a1, a2, fun i c v hc hv => a3 i c v hc (by simpa using hv)⟩
    have hM := (hR.sub off i.size).mk_ h
    refine ⟨vs, ?_⟩
    unfold part
    simp only [Sem.run_bind, hk.isAgg, Result.andThen_ok]
    cases ha : i.kind.agg with
    | true =>
      rw [ha] at hM
      simp only [if_true] at hM ⊢
      refine ⟨.agg (vs.extract off (off + i.size)), trivial, by simp [hk.sizeOf], ?_⟩
      have e : vs.extract off (off + i.size) = ((vs.toList.drop off).take i.size).toArray := by
        apply Array.ext'
        simp [List.extract_eq_take_drop]
      rw [e]
      exact hM
    | false =>
      rw [ha] at hM
      simp only [Bool.false_eq_true, if_false] at hM ⊢
      obtain ⟨z, hz, hr⟩ := hM
      have hlt : off < vs.size := by have := hk.pos; omega
      rw [hk.single ha] at hz
      refine ⟨z, trivial, ?_, hr⟩
      have e : vs[off]? = some z := by
        have : ((vs.toList.drop off).take 1)[0]? = some z := by rw [hz]; rfl
        simpa using this
      rw [e]
      rfl
  · cases h
theorem load_run (hT : TabOk P T) (hm : ∀ i b, m i = some b → Holds E w (E.home i) b) {t : TypeId} {i : TI} (hi : T t = some i) {x r : SV} {v : Value} (h : loadSV m i x = some r) (hx : Rep E w x v) :
    ∃ z, (Instr.loadAt t v).run P w = .ok z w ∧ Rep E w r z := by
  have hk := hT t i hi
  unfold loadSV at h
  split at h
  · rename_i cs
    split at h
    · rename_i hl
      cases hx with
      | rptr _ b off f hb h1 h2 h3 =>
        have hlen : ((List.range i.size).map f).length = i.size := by simp
        obtain ⟨z, hz1, hz2⟩ := loadVar_run (w := w) hk b off ((List.range i.size).map f) hlen fun j v hv => by
          have hj : j < i.size := by have := (List.getElem?_eq_some_iff.1 hv).1; simpa using this
          rw [h2 j (by omega)]
          simpa [hj] using hv
        refine ⟨z, by simpa [Instr.loadAt, Instr.sureAddr] using hz1, ?_⟩
        have hR : Reps E w ((cs.take i.size).map .d) ((List.range i.size).map f) := by
          refine ⟨by simp; omega, fun c hc => ?_, fun j c v hc hv => ?_⟩
          · obtain ⟨d, hd, rfl⟩ := List.mem_map.1 hc
            exact h1 d (List.mem_of_mem_take hd)
          · have hj : j < i.size := by have := (List.getElem?_eq_some_iff.1 hv).1; simpa using this
            simp only [List.getElem?_map, Option.map_eq_some_iff] at hc
            obtain ⟨d, hd, rfl⟩ := hc
            rw [List.getElem?_take, if_pos hj] at hd
            have e : v = f j := by simpa [hj, eq_comm] using hv
            rw [e]
            exact .d _ _ (h3 j d hd)
        exact Rep.of_if (hR.mkD_ h) hz2
    · cases h
  · rename_i id rr j
    cases hx with
    | ptr _ _ _ hd =>
      split at h
      · rename_i ty cells bf hmi
        split at h
        · rename_i hc
          obtain ⟨rfl, hl⟩ := hc
          cases hm id _ hmi with
          | box _ _ _ cur h1 h2 h3 h4 =>
            have hR0 : Reps E w cells cur.toList := ⟨by simpa using h2, h3, fun i c v hc hv => h4 i c v hc (by simpa using hv)⟩
            have hR := hR0.sub j i.size
            obtain ⟨z, hz1, hz2⟩ := loadVar_run (w := w) hk (E.home id).blk j ((cur.toList.drop j).take i.size) (by simp; omega) fun k v hv => by
              rw [cell_of_row w _ _ cur ty (0, 0) h1]
              rw [List.getElem?_take] at hv
              split at hv
              · rw [List.getElem?_drop] at hv; simpa using hv
              · cases hv
            refine ⟨z, by simpa [Instr.loadAt, Instr.sureAddr] using hz1, Rep.of_if (hR.mk_ h) hz2⟩
        · cases h
      · rename_i ty z rows f hmi
        split at h
        · rename_i row hrow
          split at h
          · rename_i hl
            cases hm id _ hmi with
            | row _ _ _ _ cur h1 h2 h3 h4 h5 h6 h7 h8 =>
              have hrl := h6 row (List.mem_of_getElem? hrow)
              have hlt : rr < rows.length := (List.getElem?_eq_some_iff.1 hrow).1
              have hcs : rr * z + z ≤ cur.size := by
                rw [h3]
                calc rr * z + z = (rr + 1) * z := by rw [Nat.add_mul, Nat.one_mul]
                  _ ≤ (E.home id).cap * z := Nat.mul_le_mul_right _ (by omega)
              have hR0 : Reps E w (row.map .d) ((cur.toList.drop (rr * z)).take z) := by
                refine ⟨by simp [hrl]; omega, fun c hc => ?_, fun k c v hc hv => ?_⟩
                · obtain ⟨d, hd, rfl⟩ := List.mem_map.1 hc
                  exact h7 row (List.mem_of_getElem? hrow) d hd
                · simp only [List.getElem?_map, Option.map_eq_some_iff] at hc
                  obtain ⟨d, hd, rfl⟩ := hc
                  rw [List.getElem?_take] at hv
                  split at hv
                  · rw [List.getElem?_drop] at hv
                    exact .d _ _ (h8 rr k row d v hrow hd (by simpa using hv))
                  · cases hv
              have hR := hR0.sub j i.size
              rw [← List.map_drop, ← List.map_take] at hR
              obtain ⟨y, hz1, hz2⟩ := loadVar_run (w := w) hk (E.home id).blk (rr * (E.home id).esz + j) ((((cur.toList.drop (rr * z)).take z).drop j).take i.size) (by simp; omega) fun k v hv => by
                rw [cell_of_row w _ _ cur ty (0, 0) h1]
                rw [List.getElem?_take] at hv
                split at hv
                · rw [List.getElem?_drop, List.getElem?_take] at hv
                  split at hv
                  · rw [List.getElem?_drop] at hv
                    rw [h2, Nat.add_assoc]
                    simpa using hv
                  · cases hv
                · cases hv
              exact ⟨y, by simpa [Instr.loadAt, Instr.sureAddr] using hz1, Rep.of_if (hR.mkD_ h) hz2⟩
          · cases h
        · cases h
      · cases h
  · cases h
end Go.Proofs.Ytdkneonokbakjaa.Eng

namespace Go.Proofs.Ytdkneonokbakjaa.Eng
open Go.RowKit
variable {P : Program} {T : Tab} {E : Env} {w : World} {m : Nat → Option Blk}
theorem fieldOf_ok {t : TypeId} {i : TI} (hi : TiOk P t i) {f off : Nat} {ft : TypeId} (h : fieldOf i f = some (off, ft)) : ∃ fields fld, P.underlying t = some (.struct fields) ∧ fields[f]? = some fld ∧ fld.offset = off ∧ fld.type = ft := by
  have hu := hi.und
  unfold fieldOf at h
  split at h
  · rename_i fs hk
    rw [hk] at hu
    obtain ⟨fields, h1, h2⟩ := hu
    rw [← h2, List.getElem?_map, Array.getElem?_toList] at h
    rw [Option.map_eq_some_iff] at h
    obtain ⟨fld, h3, h4⟩ := h
    cases h4
    exact ⟨fields, fld, h1, h3, rfl, rfl⟩
  · cases h
theorem fieldAt_run (hT : TabOk P T) {t ft : TypeId} {i fi : TI} (hi : T t = some i) (hfi : T ft = some fi) {f off b o : Nat} (h : fieldOf i f = some (off, ft)) :
    (Instr.fieldAt t (.pointer (some ⟨b, o, none⟩)) f).run P w = .ok (.pointer (some ⟨b, o + off, none⟩)) w := by
  obtain ⟨fields, fld, h1, h2, rfl, rfl⟩ := fieldOf_ok (hT t i hi) h
  have hp := (hT _ _ hfi).pos
  simp [Instr.fieldAt, run_underlying h1, h2, Instr.sureAddr, fieldPlace, (hT _ _ hfi).sizeOf, Nat.ne_of_gt hp, Addr.add_lit]
theorem field_run (hT : TabOk P T) {t ft : TypeId} {i fi : TI} (hi : T t = some i) (hfi : T ft = some fi) {f off : Nat} (h : fieldOf i f = some (off, ft)) {x r : SV} {v : Value} (hp : partSV fi off x = some r) (hx : Rep E w x v) :
    ∃ z, (Instr.field t v f).run P w = .ok z w ∧ Rep E w r z := by
  obtain ⟨fields, fld, h1, h2, rfl, rfl⟩ := fieldOf_ok (hT t i hi) h
  obtain ⟨vs, z, rfl, h3, h4⟩ := part_run hT hfi hp hx
  exact ⟨z, by simp [Instr.field, run_underlying h1, h2, asAgg, h3], h4⟩
theorem slice_und {t e : TypeId} {i : TI} (hi : TiOk P t i) (h : i.kind = .slice e) : P.underlying t = some (.slice e) := by have := hi.und; rwa [h] at this
theorem array_und {t e : TypeId} {n : Nat} {i : TI} (hi : TiOk P t i) (h : i.kind = .array n e) : P.underlying t = some (.array n e) := by have := hi.und; rwa [h] at this
theorem indexAt_run (hT : TabOk P T) {t : TypeId} {i : TI} (hi : T t = some i) {k : Int} {ik : IntKind} {x r : SV} {v : Value} (h : indexSV T i k x = some r) (hx : Rep E w x v) :
    ∃ z, (Instr.indexAt t v (.int ik k)).run P w = .ok z w ∧ Rep E w r z := by
  have hk := hT t i hi
  unfold indexSV at h
  split at h
  · rename_i e he
    have hu := slice_und hk he
    split at h
    · rename_i ie hie
      have hs := (hT e ie hie).sizeOf w
      split at h
      · rename_i rows
        split at h
        · rename_i row hrow
          split at h
          · rename_i hc
            cases h
            have hlt : k.toNat < rows.length := (List.getElem?_eq_some_iff.1 hrow).1
            have hk0 : 0 ≤ k ∧ k < (rows.length : Int) := ⟨hc.1, by omega⟩
            cases hx with
            | d _ _ hx =>
              cases hx with
              | list _ A c f h1 h2 h3 h4 h5 =>
                obtain ⟨b, off, esz, rfl, hb, hz, hcell⟩ := h4 (by omega)
                have hrz := hz row (List.mem_of_getElem? hrow)
                refine ⟨.pointer (some ⟨b, off + k.toNat * ie.size, none⟩), by simp [Instr.indexAt, asIntOf, run_underlying hu, hk0, hs, Addr.add_lit], ?_⟩
                rw [← hc.2, hrz]
                exact .rptr row b _ (f k.toNat) hb (h3 row (List.mem_of_getElem? hrow)) (fun j hj => hcell k.toNat j hlt (by omega)) fun j c hj => h5 k.toNat j row c hrow hj
          · cases h
        · cases h
      · rename_i id n z
        split at h
        · rename_i hc
          cases h
          obtain ⟨h1, h2, h3⟩ := hc
          cases hx with
          | own _ _ _ hd hz =>
            refine ⟨.pointer (some ⟨(E.home id).blk, k.toNat * ie.size, none⟩), by simp [Instr.indexAt, asIntOf, run_underlying hu, h1, h2, hs, Addr.add_lit], ?_⟩
            rw [← h3, ← hz]
            exact .ptr id k.toNat 0 hd
        · cases h
      · rename_i id n
        split at h
        · rename_i hc
          cases h
          obtain ⟨h1, h2, h3⟩ := hc
          cases hx with
          | lin _ _ hd hz _ =>
            refine ⟨.pointer (some ⟨(E.home id).blk, k.toNat * ie.size, none⟩), by simp [Instr.indexAt, asIntOf, run_underlying hu, h1, h2, hs, Addr.add_lit], ?_⟩
            have := Rep.ptr (E := E) (w := w) id 0 k.toNat hd
            rw [Nat.zero_mul, Nat.zero_add] at this
            rw [h3, Nat.mul_one]
            exact this
        · cases h
      · cases h
    · cases h
  · rename_i n e he
    have hu := array_und hk he
    split at h
    · rename_i ie hie
      have hs := (hT e ie hie).sizeOf w
      split at h
      · rename_i hc
        split at h
        · rename_i cs
          cases h
          cases hx with
          | rptr _ b off f hb h1 h2 h3 =>
            refine ⟨.pointer (some ⟨b, off + k.toNat * ie.size, none⟩), by simp [Instr.indexAt, asIntOf, run_underlying hu, hc.1, hc.2, hs, Addr.add_lit, Instr.sureAddr], ?_⟩
            refine .rptr _ b _ (fun j => f (k.toNat * ie.size + j)) hb (fun c hc => h1 c (List.mem_of_mem_drop hc)) (fun j hj => ?_) fun j c hj => ?_
            · rw [Nat.add_assoc]
              exact h2 _ (by simp at hj; omega)
            · rw [List.getElem?_drop] at hj
              exact h3 _ c hj
        · rename_i id r j
          cases h
          cases hx with
          | ptr _ _ _ hd =>
            refine ⟨.pointer (some ⟨(E.home id).blk, r * (E.home id).esz + (j + k.toNat * ie.size), none⟩), by simp [Instr.indexAt, asIntOf, run_underlying hu, hc.1, hc.2, hs, Addr.add_lit, Instr.sureAddr, Nat.add_assoc], .ptr id r _ hd⟩
        · cases h
      · cases h
    · cases h
  · cases h
theorem bound_run {x : SV} {v : Value} {k : IntKind} {n : Int} {y : Nat} {code : BoundsCode} (hx : Rep E w x v) (h : intOp (some x) = some (k, n)) (h0 : 0 ≤ n) (h1 : n ≤ y) : (Instr.sliceBound v y code).run P w = .ok n.toNat w := by
  unfold intOp at h
  split at h
  · rename_i he
    cases he
    cases h
    obtain rfl := rep_int hx
    simp [Instr.sliceBound, asIntOf, h0, h1]
  · cases h
theorem boundOr_run {x : Option SV} {v : Option Value} {d : Int} {n : Int} (h : boundOr x d = some n) (hx : ∀ u, x = some u → ∃ y, v = some y ∧ Rep E w u y) (hn : x = none → v = none) :
    (v = none ∧ n = d) ∨ ∃ u y, x = some u ∧ v = some y ∧ Rep E w u y ∧ ∃ k, intOp (some u) = some (k, n) := by
  cases x with
  | none => simp only [boundOr, Option.some.injEq] at h; exact .inl ⟨hn rfl, h.symm⟩
  | some u =>
    obtain ⟨y, hy, hr⟩ := hx u rfl
    simp only [boundOr] at h
    split at h
    · rename_i k n' he
      cases h
      exact .inr ⟨u, y, rfl, hy, hr, k, he⟩
    · cases h
theorem sliceAt_run (hT : TabOk P T) {t e : TypeId} {i ie : TI} (hi : T t = some i) (he : i.kind = .slice e) (hie : T e = some ie) {x r : SV} {lo hi_ : Option SV} {v : Value} {vl vh : Option Value} (h : sliceSV ie x lo hi_ = some r) (hx : Rep E w x v)
    (hl : ∀ u, lo = some u → ∃ y, vl = some y ∧ Rep E w u y) (hl0 : lo = none → vl = none) (hh : ∀ u, hi_ = some u → ∃ y, vh = some y ∧ Rep E w u y) (hh0 : hi_ = none → vh = none) :
    ∃ z, (Instr.sliceAt t v vl vh none).run P w = .ok z w ∧ Rep E w r z := by
  have hu := slice_und (hT t i hi) he
  have hs := (hT e ie hie).sizeOf w
  unfold sliceSV at h
  split at h
  · rename_i rows
    split at h
    · rename_i l hh' e1 e2
      split at h
      · rename_i hc
        cases h
        obtain ⟨c1, c2, c3, c4⟩ := hc
        cases hx with
        | d _ _ hx =>
          cases hx with
          | list _ A c f h1 h2 h3 h4 h5 =>
            have hbl := boundOr_run e1 hl hl0
            have hbh := boundOr_run e2 hh hh0
            have hsb : (Instr.sliceBounds true rows.length c vl vh none).run P w = .ok (l.toNat, hh'.toNat, c) w := by
              unfold Instr.sliceBounds
              have q1 : hh'.toNat ≤ c := by omega
              rcases hbh with ⟨rfl, rfl⟩ | ⟨u, y, rfl, rfl, hr, k, hk⟩
              · rcases hbl with ⟨rfl, rfl⟩ | ⟨u', y', rfl, rfl, hr', k', hk'⟩
                · simp
                · simp [bound_run (P := P) (code := .sliceB) hr' hk' c1 (y := rows.length) (by omega)]
              · have b1 := bound_run (P := P) (code := .sliceAcap) hr hk (by omega) (y := c) (by omega)
                rcases hbl with ⟨rfl, rfl⟩ | ⟨u', y', rfl, rfl, hr', k', hk'⟩
                · simp [b1]
                · simp [b1, bound_run (P := P) (code := .sliceB) hr' hk' c1 (y := hh'.toNat) (by omega)]
            have e3 : ((rows.take hh'.toNat).drop l.toNat).length = hh'.toNat - l.toNat := by simp; omega
            refine ⟨.slice (if c = l.toNat then A else A.map (·.add (l.toNat * ie.size))) (hh'.toNat - l.toNat) (c - l.toNat), ?_, ?_⟩
            · simp [Instr.sliceAt, Instr.slice, run_underlying hu, hsb, hs]
            · rw [← e3]
              refine .d _ _ (.list _ _ _ (fun i j => f (l.toNat + i) j) (by omega) (by omega) (fun r hr c hc => h3 r (List.mem_of_mem_take (List.mem_of_mem_drop hr)) c hc) (fun hn => ?_) fun i j r c hr hc => ?_)
              · obtain ⟨b, off, esz, rfl, hb, hz, hcell⟩ := h4 (by omega)
                have hez : esz = ie.size := by
                  have hm : rows[0]'(by omega) ∈ rows := List.getElem_mem _
                  rw [← hz _ hm, c4 _ hm]
                rw [if_neg (by omega)]
                refine ⟨b, off + l.toNat * ie.size, esz, by simp [Addr.add_lit], hb, fun r hr => hz r (List.mem_of_mem_take (List.mem_of_mem_drop hr)), fun i j hi hj => ?_⟩
                rw [← hez, Nat.add_assoc off, ← Nat.add_mul]
                exact hcell _ j (by omega) hj
              · rw [List.getElem?_drop, List.getElem?_take] at hr
                split at hr
                · exact h5 _ j r c hr hc
                · cases hr
      · cases h
    · cases h
  · cases h
theorem sliceMax_run (hT : TabOk P T) {t e : TypeId} {i ie : TI} (hi : T t = some i) (he : i.kind = .slice e) (hie : T e = some ie) {rows : List (List Dat)} {v : Value} {kh km : IntKind} (hz : ∀ r ∈ rows, r.length = ie.size) (hx : Rep E w (.d (.list rows)) v) :
    ∃ z, (Instr.sliceAt t v none (some (.int kh rows.length)) (some (.int km rows.length))).run P w = .ok z w ∧ Rep E w (.full rows) z := by
  have hu := slice_und (hT t i hi) he
  have hs := (hT e ie hie).sizeOf w
  cases hx with
  | d _ _ hx =>
    have hx' := hx
    cases hx with
    | list _ A c f h1 h2 h3 h4 h5 =>
      have hA : (if rows.length = 0 then A else A.map (·.add (0 * ie.size))) = A := by
        split
        · rfl
        · rename_i hn
          obtain ⟨b, off, esz, rfl, _⟩ := h4 (by omega)
          simp [Addr.add_lit]
      have hb1 : (Instr.sliceBound (.int km rows.length) c .slice3Acap).run P w = .ok rows.length w := by simp [Instr.sliceBound, asIntOf]; omega
      have hb2 : (Instr.sliceBound (.int kh rows.length) rows.length .slice3B).run P w = .ok rows.length w := by simp [Instr.sliceBound, asIntOf]
      have hsb : (Instr.sliceBounds true rows.length c none (some (.int kh rows.length)) (some (.int km rows.length))).run P w = .ok (0, rows.length, rows.length) w := by
        simp [Instr.sliceBounds, hb1, hb2]
      refine ⟨.slice A rows.length rows.length, ?_, .full rows A (.list rows A _ f (Nat.le_refl _) (by omega) h3 h4 h5)⟩
      rw [show (Value.slice A rows.length rows.length) = .slice (if rows.length = 0 then A else A.map (·.add (0 * ie.size))) (rows.length - 0) (rows.length - 0) by rw [hA, Nat.sub_zero]]
      simp [Instr.sliceAt, Instr.slice, run_underlying hu, hsb, hs]
end Go.Proofs.Ytdkneonokbakjaa.Eng

namespace Go.Proofs.Ytdkneonokbakjaa.Eng
open Go.RowKit
variable {P : Program} {T : Tab} {E : Env} {w : World} {m : Nat → Option Blk}
theorem intOp_eq {x : Option SV} {k : IntKind} {n : Int} (h : intOp x = some (k, n)) : x = some (.d (.val (.int k n))) := by
  unfold intOp at h
  split at h
  · cases h; rfl
  · cases h
theorem evList_rep {ev : Operand → Option SV} {ρ : Operand → Value} (hev : ∀ x v, ev x = some v → Rep E w v (ρ x)) : ∀ {l : List Operand} {r : List SV}, evList ev l = some r →
    l.length = r.length ∧ ∀ (j : Nat) p q, r[j]? = some p → (l.map ρ)[j]? = some q → Rep E w p q
  | [], r, h => by cases h; simp
  | x :: l, r, h => by
    simp only [evList] at h
    split at h
    · rename_i v r' h1 h2
      cases h
      obtain ⟨k1, k2⟩ := evList_rep hev h2
      refine ⟨by simp [k1], fun j p q hp hq => ?_⟩
      match j with
      | 0 =>
        simp at hp hq
        subst hp; subst hq
        exact hev x v h1
      | j + 1 => exact k2 j p q (by simpa using hp) (by simpa using hq)
    · cases h
theorem aopR_run (hT : TabOk P T) {ev : Operand → Option SV} {ρ : Operand → Value} (hev : ∀ x v, ev x = some v → Rep E w v (ρ x)) (hm : ∀ i b, m i = some b → Holds E w (E.home i) b)
    {o : Oper} {r : SV} (h : aopR T m ev o.op = some r) : ∃ v, (execOp ρ o).run P w = .ok (.value v) w ∧ Rep E w r v := by
  unfold aopR at h
  split at h
  -- move, assign
  · rename_i x ho; exact ⟨ρ x, by simp [execOp, ho], hev x r h⟩
  · rename_i x ho; exact ⟨ρ x, by simp [execOp, ho], hev x r h⟩
  -- pick
  · rename_i c x y ho
    split at h
    · rename_i t u v h1 h2 h3
      cases h
      have e := rep_bool (hev c _ h1)
      refine ⟨if t then ρ x else ρ y, by simp [execOp, ho, e, asBool], ?_⟩
      cases t
      · exact hev y v h3
      · exact hev x u h2
    · cases h
  -- binOp
  · rename_i op t x y yt ho
    split at h
    · rename_i u v h1 h2
      have key : binSV T op t u v = some r := by
        split at h
        · cases h
        · cases h
        · exact h
      obtain ⟨z, hz, hr⟩ := binSV_run hT key (hev x u h1) (hev y v h2) x y
      refine ⟨z, ?_, hr⟩
      simp only [execOp, ho, Sem.run_bind] at hz ⊢
      rw [hz]
      simp
    · cases h
  -- unOp
  · rename_i op t x ho
    split at h
    · rename_i b h1
      cases h
      have e := rep_bool (hev x _ h1)
      exact ⟨.bool !b, by simp [execOp, ho, e, Op.unary], rep_val rfl⟩
    · rename_i k n h1
      cases h
      have e := rep_int (hev x _ h1)
      exact ⟨.int k (k.wrap (0 - n)), by simp [execOp, ho, e, Op.unary, Op.intArith], rep_val rfl⟩
    · cases h
  -- convert
  · rename_i src dst x ho
    split at h
    · rename_i si i sk n hs hd hx
      have hu := (hT dst i hd).und
      split at h
      · rename_i k hk
        cases h
        rw [hk] at hu
        have e := rep_int (hev x _ hx)
        have hsu : ∃ d, P.underlying src = some d := by
          have h1 := (hT src si hs).und
          cases hk1 : si.kind <;> rw [hk1] at h1 <;> first | exact ⟨_, h1⟩ | (obtain ⟨d, hd, _⟩ := h1; exact ⟨_, hd⟩)
        obtain ⟨d, hd'⟩ := hsu
        exact ⟨.int k (k.wrap n), by simp [execOp, ho, e, convert, run_underlying hd', run_underlying hu, Conv.intToInt], rep_val rfl⟩
      · cases h
    · cases h
  -- nilCheck
  · rename_i x ho
    split at h
    · rename_i cs hx
      cases h
      have hr := hev x _ hx
      obtain ⟨u, hu⟩ : ∃ u, ρ x = u := ⟨_, rfl⟩
      rw [hu] at hr
      cases hr with
      | rptr _ b off f hb h1 h2 h3 => exact ⟨_, by simp [execOp, ho, hu], .rptr _ b off f hb h1 h2 h3⟩
    · rename_i i r' j hx
      cases h
      have hr := hev x _ hx
      obtain ⟨u, hu⟩ : ∃ u, ρ x = u := ⟨_, rfl⟩
      rw [hu] at hr
      cases hr with
      | ptr _ _ _ hd => exact ⟨_, by simp [execOp, ho, hu], .ptr _ _ _ hd⟩
    · cases h
  -- fieldAddr
  · rename_i s x f ho
    split at h
    · rename_i i hi
      split at h
      · rename_i off ft hf
        split at h
        · rename_i fi cs hft hx
          cases h
          have hr := hev x _ hx
          obtain ⟨u, hu⟩ : ∃ u, ρ x = u := ⟨_, rfl⟩
          rw [hu] at hr
          cases hr with
          | rptr _ b o f hb h1 h2 h3 =>
            refine ⟨_, by simp [execOp, ho, hu, fieldAt_run hT hi hft hf]; rfl, .rptr _ b _ (fun j => f (off + j)) hb (fun c hc => h1 c (List.mem_of_mem_drop hc)) (fun j hj => ?_) fun j c hj => ?_⟩
            · rw [Nat.add_assoc]
              exact h2 _ (by simp at hj; omega)
            · rw [List.getElem?_drop] at hj
              exact h3 _ c hj
        · rename_i fi id r' j hft hx
          cases h
          have hr := hev x _ hx
          obtain ⟨u, hu⟩ : ∃ u, ρ x = u := ⟨_, rfl⟩
          rw [hu] at hr
          cases hr with
          | ptr _ _ _ hd =>
            exact ⟨.pointer (some ⟨(E.home id).blk, r' * (E.home id).esz + (j + off), none⟩), by simp [execOp, ho, hu, fieldAt_run hT hi hft hf, Nat.add_assoc], .ptr _ _ _ hd⟩
        · cases h
      · cases h
    · cases h
  -- field
  · rename_i s x f ho
    split at h
    · rename_i i hi
      split at h
      · rename_i off ft hf
        split at h
        · rename_i fi v hft hx
          obtain ⟨z, hz, hr⟩ := field_run hT hi hft hf h (hev x v hx)
          exact ⟨z, by simp [execOp, ho, hz], hr⟩
        · cases h
      · cases h
    · cases h
  -- indexAddr
  · rename_i t x ix ho
    split at h
    · rename_i i v ik k hi hx hix
      have e := rep_int (hev ix _ (intOp_eq hix))
      obtain ⟨z, hz, hr⟩ := indexAt_run (ik := ik) hT hi h (hev x v hx)
      exact ⟨z, by simp [execOp, ho, e, hz], hr⟩
    · cases h
  -- index
  · rename_i t x ix ho
    split at h
    · rename_i i v ik k hi hx hix
      have e := rep_int (hev ix _ (intOp_eq hix))
      split at h
      · rename_i n el he
        split at h
        · rename_i ie hie
          split at h
          · rename_i hc
            obtain ⟨vs, z, hv, hz, hr⟩ := part_run hT hie h (hev x v hx)
            refine ⟨z, ?_, hr⟩
            simp [execOp, ho, e, hv, Instr.index, asIntOf, run_underlying (array_und (hT t i hi) he), hc.1, hc.2, (hT _ _ hie).sizeOf, hz]
          · cases h
        · cases h
      · cases h
    · cases h
  -- extract
  · rename_i x i ho
    split at h
    · rename_i cs hx
      rw [Option.map_eq_some_iff] at h
      obtain ⟨c, hc, rfl⟩ := h
      have hr := hev x _ hx
      obtain ⟨u, hu⟩ : ∃ u, ρ x = u := ⟨_, rfl⟩
      rw [hu] at hr
      cases hr with
      | d _ _ hr =>
        cases hr with
        | tup _ vs h1 h2 =>
          have hlt : i < vs.size := by have := (List.getElem?_eq_some_iff.1 hc).1; omega
          refine ⟨vs[i], ?_, .d _ _ (h2 i c _ hc (Array.getElem?_eq_getElem hlt))⟩
          simp [execOp, ho, hu, Instr.extract, hlt]
    · rename_i cs hx
      have hr := hev x _ hx
      obtain ⟨u, hu⟩ : ∃ u, ρ x = u := ⟨_, rfl⟩
      rw [hu] at hr
      cases hr with
      | tup _ vs h1 h2 =>
        have hlt : i < vs.size := by have := (List.getElem?_eq_some_iff.1 h).1; omega
        refine ⟨vs[i], ?_, h2 i r _ h (Array.getElem?_eq_getElem hlt)⟩
        simp [execOp, ho, hu, Instr.extract, hlt]
    · cases h
  -- slice
  · rename_i t x lo hi_ ho
    split at h
    · rename_i i hi
      split at h
      · rename_i el he
        split at h
        · rename_i ie v hie hx
          split at h
          · obtain ⟨z, hz, hr⟩ := sliceAt_run (vl := none) (vh := none) hT hi he hie h (hev x v hx) (fun _ h => by cases h) (fun _ => rfl) (fun _ h => by cases h) (fun _ => rfl)
            exact ⟨z, by simp [execOp, ho, hz], hr⟩
          · rename_i l
            split at h
            · rename_i lv hl
              obtain ⟨z, hz, hr⟩ := sliceAt_run (vl := some (ρ l)) (vh := none) hT hi he hie h (hev x v hx) (fun u h => by cases h; exact ⟨_, rfl, hev l _ hl⟩) (fun h => by cases h) (fun _ h => by cases h) (fun _ => rfl)
              exact ⟨z, by simp [execOp, ho, hz], hr⟩
            · cases h
          · rename_i hh
            split at h
            · rename_i hv hl
              obtain ⟨z, hz, hr⟩ := sliceAt_run (vl := none) (vh := some (ρ hh)) hT hi he hie h (hev x v hx) (fun _ h => by cases h) (fun _ => rfl) (fun u h => by cases h; exact ⟨_, rfl, hev hh _ hl⟩) (fun h => by cases h)
              exact ⟨z, by simp [execOp, ho, hz], hr⟩
            · cases h
          · rename_i l hh
            split at h
            · rename_i lv hv hl1 hl2
              obtain ⟨z, hz, hr⟩ := sliceAt_run (vl := some (ρ l)) (vh := some (ρ hh)) hT hi he hie h (hev x v hx) (fun u h => by cases h; exact ⟨_, rfl, hev l _ hl1⟩) (fun h => by cases h) (fun u h => by cases h; exact ⟨_, rfl, hev hh _ hl2⟩) (fun h => by cases h)
              exact ⟨z, by simp [execOp, ho, hz], hr⟩
            · cases h
        · cases h
      · cases h
    · cases h
  -- slice to the end, without room
  · rename_i t x hh mx ho
    split at h
    · rename_i i hi
      split at h
      · rename_i el he
        split at h
        · rename_i ie rows kh hv km n hie hx hh1 hm1
          split at h
          · rename_i hc
            cases h
            obtain ⟨rfl, rfl, hz⟩ := hc
            obtain ⟨z, hz1, hr⟩ := sliceMax_run (kh := kh) (km := km) hT hi he hie hz (hev x _ hx)
            have e1 := rep_int (hev hh _ (intOp_eq hh1))
            have e2 := rep_int (hev mx _ (intOp_eq hm1))
            exact ⟨z, by simp [execOp, ho, e1, e2, hz1], hr⟩
          · cases h
        · cases h
      · cases h
    · cases h
  -- load
  · rename_i t x ho
    split at h
    · rename_i i v hi hx
      obtain ⟨z, hz, hr⟩ := load_run hT hm hi h (hev x v hx)
      exact ⟨z, by simp [execOp, ho, hz], hr⟩
    · cases h
  -- functions as1 values
  · rename_i fn first captured ho
    split at h
    · rename_i f
      split at h
      · rename_i a b h1 h2
        cases h
        obtain ⟨k1, k2⟩ := evList_rep hev h1
        obtain ⟨l1, l2⟩ := evList_rep hev h2
        refine ⟨.func (.func f) (first.map ρ) (captured.map ρ), by simp [execOp, ho, Instr.makeFunc], .fn f a b _ _ (by simp; simpa using k1) (by simp; simpa using l1) (fun i c v hc hv => k2 i c v hc ?_) fun i c v hc hv => l2 i c v hc ?_⟩
        · simpa using hv
        · simpa using hv
      · cases h
    · cases h
  -- calls of what is built in
  · rename_i c ho
    have args : ∀ {l : List Operand}, c.args.toList = l → c.args = l.toArray := fun h => by rw [← h]
    have tys : ∀ {l : List TypeId}, c.argTypes.toList = l → c.argTypes = l.toArray := fun h => by rw [← h]
    split at h
    · rename_i x t hc ha ht
      split at h
      · rename_i i v hi hx
        have hr := hev x v hx
        obtain ⟨u, hu⟩ : ∃ u, ρ x = u := ⟨_, rfl⟩
        rw [hu] at hr
        split at h
        · rename_i el n hk hn
          cases h
          have e : ∃ A c, u = .slice A n c := by
            unfold lenSV at hn
            split at hn
            · cases hn
              cases hr with
              | d _ _ hr => cases hr with | list _ A cp f => exact ⟨_, _, rfl⟩
            · cases hn
              cases hr with
              | own => exact ⟨_, _, rfl⟩
            · cases hn
              cases hr with
              | nilS => exact ⟨_, _, rfl⟩
            · cases hn
              cases hr with
              | lin => exact ⟨_, _, rfl⟩
            · cases hn
          obtain ⟨A, cp, rfl⟩ := e
          exact ⟨_, by simp [execOp, ho, resolve, hc, args ha, tys ht, hu, invoke, builtin, Builtin.len_, run_underlying (slice_und (hT t i hi) hk), goInt], rep_val rfl⟩
        · cases h
      · cases h
    · rename_i x y hc ha
      split at h
      · rename_i k a k' b hx hy
        cases h
        have e1 := rep_int (hev x _ hx)
        have e2 := rep_int (hev y _ hy)
        exact ⟨_, by simp [execOp, ho, resolve, hc, args ha, e1, e2, invoke, builtin, Builtin.max_, Builtin.max2], rep_val rfl⟩
      · cases h
    · rename_i x y hc ha
      split at h
      · rename_i k a k' b hx hy
        cases h
        have e1 := rep_int (hev x _ hx)
        have e2 := rep_int (hev y _ hy)
        exact ⟨_, by simp [execOp, ho, resolve, hc, args ha, e1, e2, invoke, builtin, Builtin.min_, Builtin.min2], rep_val rfl⟩
      · cases h
    · cases h
  · cases h
end Go.Proofs.Ytdkneonokbakjaa.Eng

namespace Go.Proofs.Ytdkneonokbakjaa.Eng
open Go.RowKit
variable {P : Program} {T : Tab} {E : Env} {w : World}
theorem fold_set (off : Nat) : ∀ (l : List Value) (s : Nat) (A : Array Value), ((l.zipIdx s).foldl (fun cs p => cs.setIfInBounds (off + p.2) p.1) A).size = A.size ∧
    ∀ k, ((l.zipIdx s).foldl (fun cs p => cs.setIfInBounds (off + p.2) p.1) A)[k]? = if off + s ≤ k ∧ k < off + s + l.length ∧ k < A.size then l[k - (off + s)]? else A[k]?
  | [], s, A => by simp; intros; omega
  | x :: l, s, A => by
    obtain ⟨h1, h2⟩ := fold_set off l (s + 1) (A.setIfInBounds (off + s) x)
    simp only [List.zipIdx_cons, List.foldl_cons]
    refine ⟨by rw [h1]; simp, fun k => ?_⟩
    rw [h2 k, Array.size_setIfInBounds, Array.getElem?_setIfInBounds]
    by_cases hk : k = off + s
    · subst hk
      rw [if_neg (by omega), if_pos rfl]
      by_cases hlt : off + s < A.size
      · rw [if_pos hlt, if_pos (by simp; omega)]; simp
      · rw [if_neg hlt, if_neg (by omega), Array.getElem?_eq_none (by omega)]
    · by_cases h3 : off + (s + 1) ≤ k ∧ k < off + (s + 1) + l.length ∧ k < A.size
      · rw [if_pos h3, if_pos (by simp; omega), show k - (off + s) = (k - (off + (s + 1))) + 1 by omega, List.getElem?_cons_succ]
      · rw [if_neg h3, if_neg (by omega)]
        rw [if_neg]
        simp; omega
def splice (cs : List SV) (off : Nat) (xs : List SV) : List SV := cs.take off ++ xs ++ cs.drop (off + xs.length)
theorem Reps.splice {cs xs : List SV} {vs us : List Value} (h : Reps E w cs vs) (k : Reps E w xs us) (off : Nat) (hoff : off + xs.length ≤ cs.length) (A : Array Value) (hs : A.size = vs.length)
    (hA : ∀ k, A[k]? = if off ≤ k ∧ k < off + us.length ∧ k < vs.length then us[k - off]? else vs[k]?) : Reps E w (splice cs off xs) A.toList := by
  obtain ⟨h1, h2, h3⟩ := h
  obtain ⟨k1, k2, k3⟩ := k
  unfold Eng.splice
  refine ⟨by simp; omega, fun c hc => ?_, fun i c v hc hv => ?_⟩
  · rcases List.mem_append.1 hc with hc | hc
    · rcases List.mem_append.1 hc with hc | hc
      · exact h2 c (List.mem_of_mem_take hc)
      · exact k2 c hc
    · exact h2 c (List.mem_of_mem_drop hc)
  · rw [Array.getElem?_toList, hA] at hv
    have ht : (cs.take off).length = off := by simp; omega
    by_cases c1 : i < off
    · rw [if_neg (by omega)] at hv
      rw [List.append_assoc, List.getElem?_append_left (by omega), List.getElem?_take, if_pos c1] at hc
      exact h3 i c v hc hv
    · by_cases c2 : i < off + xs.length
      · rw [if_pos (by omega)] at hv
        rw [List.getElem?_append_left (by simp; omega), List.getElem?_append_right (by omega), ht] at hc
        exact k3 _ c v hc hv
      · rw [if_neg (by omega)] at hv
        rw [List.getElem?_append_right (by simp; omega), List.getElem?_drop] at hc
        rw [show off + xs.length + (i - (cs.take off ++ xs).length) = i by simp; omega] at hc
        exact h3 i c v hc hv
def placeOf (T : Tab) (i : TI) (k : Nat) : Option (Nat × Nat) := match i.kind with
  | .struct fs => match fs[k]? with
    | some (off, ft) => match T ft with
      | some fi => some (off, fi.size)
      | none => none
    | none => none
  | .array _ e => match T e with
    | some ie => some (k * ie.size, ie.size)
    | none => none
  | _ => none
def fillSV (place : Nat → Option (Nat × Nat)) (cells : List SV) : List (Nat × SV) → Option (List SV)
  | [] => some cells
  | (k, v) :: rest => match place k with
    | some (off, sz) => if v.fit = true ∧ v.cells.length = sz ∧ off + sz ≤ cells.length then fillSV place (splice cells off v.cells) rest else none
    | none => none
theorem Rep.reps {x : SV} {v : Value} (h : Rep E w x v) (hf : x.fit = true) : Reps E w x.cells v.cells.toList := by
  obtain ⟨h1, h2, h3⟩ := h.cells hf
  exact ⟨by simpa using h1, h2, fun i c u hc hu => h3 i c u hc (by simpa using hu)⟩
theorem fill_run {place pl : Nat → Option (Nat × Nat)} (hpl : ∀ k x, place k = some x → pl k = some x) : ∀ (parts : List (Nat × SV)) (ps : List (Nat × Value)) (cells out : List SV) (A : Array Value),
    ps.length = parts.length → (∀ (i : Nat) p q, parts[i]? = some p → ps[i]? = some q → p.1 = q.1 ∧ Rep E w p.2 q.2) → Reps E w cells A.toList → fillSV place cells parts = some out → ∃ B, Instr.fill pl A ps = some B ∧ Reps E w out B.toList
  | [], ps, cells, out, A, hl, _, hA, h => by
    cases ps with
    | nil => simp only [fillSV, Option.some.injEq] at h; subst h; exact ⟨A, rfl, hA⟩
    | cons => simp at hl
  | (k, x) :: parts, ps, cells, out, A, hl, hp, hA, h => by
    cases ps with
    | nil => simp at hl
    | cons q ps =>
      obtain ⟨k', v⟩ := q
      obtain ⟨hk, hx⟩ := hp 0 _ _ rfl rfl
      simp only at hk hx
      subst hk
      simp only [fillSV] at h
      split at h
      · rename_i off sz hpk
        split at h
        · rename_i hc
          obtain ⟨hf, rfl, hle⟩ := hc
          have hX := hx.reps hf
          have hsz : v.cells.size = x.cells.length := by simpa using hX.1
          have hAl : A.size = cells.length := by simpa using hA.1
          obtain ⟨f1, f2⟩ := fold_set off v.cells.toList 0 A
          have e : (v.cells.zipIdx.foldl (fun cs (p : Value × Nat) => cs.setIfInBounds (off + p.2) p.1) A) = (v.cells.toList.zipIdx 0).foldl (fun cs p => cs.setIfInBounds (off + p.2) p.1) A := by
            rw [← Array.foldl_toList, Array.toList_zipIdx]
          have hsp := hA.splice hX off (by omega) _ (f1.trans (by simp)) fun k => by
            rw [f2 k]
            simp
          obtain ⟨B, h1, h2⟩ := fill_run hpl parts ps _ out _ (by simpa using hl) (fun i p q hp' hq' => hp (i + 1) p q (by simpa using hp') (by simpa using hq')) hsp h
          refine ⟨B, ?_, h2⟩
          simp only [Instr.fill, hpl _ _ hpk]
          rw [if_neg (by simp [hsz]; omega)]
          rw [← h1]
          exact congrArg (fun z => Instr.fill pl z ps) e
        · cases h
      · cases h
theorem places_run (hT : TabOk P T) : ∀ (fs : List Field), (∀ p ∈ fs.map (fun f => (f.offset, f.type)), (T p.2).isSome = true) →
    fs.mapM (fun f => (P.info? f.type).map fun i => (f.offset, i.size)) = some (fs.map fun f => (f.offset, ((T f.type).map (·.size)).getD 0))
  | [], _ => rfl
  | f :: fs, h => by
    have h0 := h (f.offset, f.type) (by simp)
    obtain ⟨i, hi⟩ := Option.isSome_iff_exists.1 h0
    simp only at hi
    obtain ⟨inf, z, h1, h2, _⟩ := (hT _ _ hi).info
    have ih := places_run hT fs fun p hp => h p (by simp only [List.map_cons, List.mem_cons]; exact .inr hp)
    simp [List.mapM_cons, h1, h2, hi, ih]
def knownB (T : Tab) (i : TI) : Bool := match i.kind with
  | .struct fs => fs.all fun p => (T p.2).isSome
  | .array _ e => (T e).isSome
  | _ => false
theorem build_run (hT : TabOk P T) {t : TypeId} {i : TI} (hi : T t = some i) (hkn : knownB T i = true) {parts : List (Nat × SV)} {ps : Array (Nat × Value)} {out : List SV} (hl : ps.size = parts.length)
    (hp : ∀ (j : Nat) p q, parts[j]? = some p → ps[j]? = some q → p.1 = q.1 ∧ Rep E w p.2 q.2) (h : fillSV (placeOf T i) (i.zero.map cSV) parts = some out) :
    ∃ z, (Instr.build t ps).run P w = .ok z w ∧ Rep E w (.agg out) z := by
  have hk := hT t i hi
  obtain ⟨inf, z, i1, i2, i3, i4, i5⟩ := hk.info
  have hz : Reps E w (i.zero.map cSV) z.cells.toList := by
    rw [i5]
    refine ⟨by simp, fun c hc => ?_, fun j c v hc hv => ?_⟩
    · obtain ⟨u, hu, rfl⟩ := List.mem_map.1 hc
      exact (cSV_rep (E := E) (w := w) (hk.one u hu)).2
    · simp only [List.getElem?_map, Option.map_eq_some_iff] at hc
      obtain ⟨u, hu, rfl⟩ := hc
      have e : u = v := by
        have : i.zero[j]? = some v := by simpa using hv
        rw [hu] at this
        cases this
        rfl
      subst e
      exact (cSV_rep (hk.one u (List.mem_of_getElem? hu))).1
  have hu := hk.und
  have key : ∃ cells, P.built t ps.toList = some cells ∧ Reps E w out cells.toList := by
    cases hkk : i.kind with
    | struct fs =>
      rw [hkk] at hu
      obtain ⟨fields, u1, u2⟩ := hu
      have hpl := places_run hT fields.toList (by rw [u2]; unfold knownB at hkn; rw [hkk] at hkn; exact fun p hp => List.all_eq_true.1 hkn p hp)
      obtain ⟨B, b1, b2⟩ := fill_run (pl := fun x => (fields.toList.map fun f => (f.offset, ((T f.type).map (·.size)).getD 0)).toArray[x]?) (place := placeOf T i) (fun k x hx => by
        unfold placeOf at hx
        rw [hkk] at hx
        simp only at hx
        split at hx
        · rename_i off ft hf
          split at hx
          · rename_i fi hfi
            cases hx
            rw [← u2, List.getElem?_map, Option.map_eq_some_iff] at hf
            obtain ⟨fld, f1, f2⟩ := hf
            cases f2
            have f1' : fields[k]? = some fld := by simpa using f1
            simp [f1', hfi]
          · cases hx
        · cases hx) parts ps.toList _ out z.cells (by simpa using hl) (fun j p q h1 h2 => hp j p q h1 (by simpa using h2)) hz h
      refine ⟨B, ?_, b2⟩
      unfold Program.built
      simp only [i1, u1, i4, hpl]
      exact b1
    | array n e =>
      rw [hkk] at hu
      unfold knownB at hkn
      rw [hkk] at hkn
      obtain ⟨ie, hie⟩ := Option.isSome_iff_exists.1 hkn
      obtain ⟨inf', z', j1, j2, _⟩ := (hT _ _ hie).info
      obtain ⟨B, b1, b2⟩ := fill_run (pl := fun k => some (k * inf'.size, inf'.size)) (place := placeOf T i) (fun k x hx => by
        unfold placeOf at hx
        rw [hkk] at hx
        simp only [hie] at hx
        cases hx
        rw [j2]) parts ps.toList _ out z.cells (by simpa using hl) (fun j p q h1 h2 => hp j p q h1 (by simpa using h2)) hz h
      refine ⟨B, ?_, b2⟩
      unfold Program.built
      simp only [i1, hu, i4, j1]
      exact b1
    | _ => unfold knownB at hkn; rw [hkk] at hkn; cases hkn
  obtain ⟨cells, c1, c2⟩ := key
  refine ⟨.agg cells, run_build w t ps cells c1, ?_⟩
  have := c2.mk_ (agg := true) rfl
  simpa using this
end Go.Proofs.Ytdkneonokbakjaa.Eng

namespace Go.Proofs.Ytdkneonokbakjaa.Eng
open Go.RowKit
structure Out where
  res : SV
  frz : List Nat := []
  wr : Option (Nat × Option Blk) := none
  nw : Option Blk := none
  rds : List Nat := []
def memApp (m : Nat → Option Blk) (nid : Nat) (o : Out) : Nat → Option Blk :=
  let m1 := frzM m o.frz
  let m2 := match o.wr with
    | none => m1
    | some (i, b) => setMem m1 i b
  match o.nw with
  | none => m2
  | some b => setMem m2 nid (some b)
def evParts (ev : Operand → Option SV) : List (Nat × Operand) → Option (List (Nat × SV))
  | [] => some []
  | (k, x) :: l => match ev x, evParts ev l with
    | some v, some r => some ((k, v) :: r)
    | _, _ => none
def rowsOf (m : Nat → Option Blk) (z : Nat) : Nat → List (Nat × SV) → Option (List (List Dat) × List Nat)
  | _, [] => some ([], [])
  | k, (j, x) :: l => if j = k ∧ x.fit = true ∧ x.cells.length = z then
      match escL m x.cells, rowsOf m z (k + 1) l with
      | some (ds, is), some (rs, is') => some (ds :: rs, is ++ is')
      | _, _ => none
    else none
def spliceD (cs : List Dat) (off : Nat) (xs : List Dat) : List Dat := cs.take off ++ xs ++ cs.drop (off + xs.length)
def srcRows (m : Nat → Option Blk) (z : Nat) : SV → Option (List (List Dat))
  | .d (.list rows) => if ∀ r ∈ rows, r.length = z then some rows else none
  | .own id n z' => match m id with
    | some (.row _ z'' rows _) => if n = rows.length ∧ z' = z ∧ z'' = z then some rows else none
    | _ => none
  | _ => none
def storeOut (m : Nat → Option Blk) (i : TI) (id r j : Nat) (v : SV) : Option Out :=
  if v.fit = true ∧ v.cells.length = i.size then
    match m id with
    | some (.box ty cells false) => if r = 0 ∧ j + i.size ≤ cells.length then some { res := .und, wr := some (id, some (.box ty (splice cells j v.cells) false)) } else none
    | some (.row ty z rows false) => match rows[r]?, escL m v.cells with
      | some row, some (ds, is) => if j + i.size ≤ row.length ∧ id ∉ is then some { res := .und, frz := is, wr := some (id, some (.row ty z (rows.set r (spliceD row j ds)) false)) } else none
      | _, _ => none
    | _ => none
  else none
def fitsB (n bytes : Nat) : Bool := decide (n * bytes ≤ 140737488355328 ∧ n ≤ maxLen)
theorem fitsB_iff {n b : Nat} : fitsB n b = true ↔ n * b ≤ 140737488355328 ∧ n ≤ maxLen := by simp [fitsB]
theorem fitsB_small {n b : Nat} (hn : n ≤ 1000000) (hb : b ≤ 1000000) : fitsB n b = true := by
  rw [fitsB_iff]
  exact ⟨Nat.le_trans (Nat.mul_le_mul hn hb) (by decide), by simp only [maxLen]; omega⟩
def appendOut (m : Nat → Option Blk) (nid : Nat) (e : TypeId) (ie : TI) (s : SV) (xr : List (List Dat)) : Option Out :=
  match s with
  | .nilS => if 0 < xr.length ∧ fitsB xr.length ie.bytes = true then some { res := .own nid xr.length ie.size, nw := some (.row e ie.size xr false) } else none
  | .own id n z => match m id with
    | some (.row ty z' rows false) => if n = rows.length ∧ z = ie.size ∧ z' = ie.size ∧ ty = e ∧ fitsB (n + xr.length) ie.bytes = true then
        some { res := .own nid (n + xr.length) ie.size, wr := some (id, none), nw := some (.row e ie.size (rows ++ xr) false) } else none
    | _ => none
  | .full rows => if 0 < xr.length ∧ (∀ r ∈ rows, r.length = ie.size) ∧ fitsB (rows.length + xr.length) ie.bytes = true then some { res := .own nid (rows.length + xr.length) ie.size, nw := some (.row e ie.size (rows ++ xr) false) } else none
  | _ => none
def isNilL : List Value → Bool
  | [.slice none 0 0] => true
  | _ => false
theorem isNilL_eq {l : List Value} (h : isNilL l = true) : l = [.slice none 0 0] := by
  unfold isNilL at h
  split at h
  · rfl
  · cases h
def aop (T : Tab) (m : Nat → Option Blk) (nid : Nat) (ev : Operand → Option SV) : Op → Option Out
  | .box e x => match ev x with
    | some v => if v.fit = true then some { res := .ptr nid 0 0, nw := some (.box e v.cells false) } else none
    | none => none
  | .alloc e => match T e with
    | some i => some { res := .ptr nid 0 0, nw := some (.box e (i.zero.map cSV) false) }
    | none => none
  | .build t ps => match T t, evParts ev ps.toList with
    | some i, some l => if knownB T i = true then (fillSV (placeOf T i) (i.zero.map cSV) l).map fun c => { res := .agg c } else none
    | _, _ => none
  | .buildSlice t len ps => match T t with
    | some i => match i.kind with
      | .slice e => match T e, evParts ev ps.toList with
        | some ie, some l => match rowsOf m ie.size 0 l with
          | some (rows, is) => if rows.length = len ∧ len * ie.size ≤ 16777216 ∧ len ≤ maxLen then some { res := .own nid len ie.size, frz := is, nw := some (.row e ie.size rows false) } else none
          | none => none
        | _, _ => none
      | _ => none
    | none => none
  | .makeSlice t l c => match T t with
    | some i => match i.kind with
      | .slice e => match T e, intOp (ev l), intOp (ev c) with
        | some ie, some (_, n), some (_, n') => if n = n' ∧ 0 ≤ n ∧ (ie.bytes : Int) * n ≤ 140737488355328 ∧ n ≤ 9223372036854775807 then
            if isNilL ie.zero = true then some { res := .lin nid n.toNat, nw := some (.box e (List.replicate n.toNat .nilS) false) }
            else some { res := .own nid n.toNat ie.size, nw := some (.row e ie.size (List.replicate n.toNat (ie.zero.map cD)) false) } else none
        | _, _, _ => none
      | _ => none
    | none => none
  | .store t x y => match T t, ev x, ev y with
    | some i, some (.ptr id r j), some v => storeOut m i id r j v
    | _, _, _ => none
  | .call c => match c.callee, c.args.toList, c.argTypes.toList with
    | .builtin .append, [s, x], [t, t'] => match T t with
      | some i => match i.kind with
        | .slice e => match T e, ev s, ev x with
          | some ie, some sv, some xv => match srcRows m ie.size xv with
            | some xr => if t' = t ∧ 0 < ie.size then appendOut m nid e ie sv xr else none
            | none => none
          | _, _, _ => none
        | _ => none
      | none => none
    | _, _, _ => (aopR T m ev (.call c)).map fun r => { res := r }
  | op => (aopR T m ev op).map fun r => { res := r }
section
variable {P : Program} {T : Tab} {W0 : Fix} {R0 : Nat → Prop} {ns : Nat} {D : Nat → Prop} {s : St} {E : Env} {a : Act} {w : World}
theorem Sim.weak (h : Sim W0 R0 ns D s E a w) {D' : Nat → Prop} (hD : ∀ i, D i → D' i) : Sim W0 R0 ns D' s E a w := { h with dom := fun i hi => hD i (h.dom i hi) }
theorem evParts_rep {ev : Operand → Option SV} {ρ : Operand → Value} (hev : ∀ x v, ev x = some v → Rep E w v (ρ x)) : ∀ {l : List (Nat × Operand)} {r : List (Nat × SV)}, evParts ev l = some r →
    l.length = r.length ∧ ∀ (j : Nat) p q, r[j]? = some p → (l.map fun (i, x) => (i, ρ x))[j]? = some q → p.1 = q.1 ∧ Rep E w p.2 q.2
  | [], r, h => by cases h; simp
  | (k, x) :: l, r, h => by
    simp only [evParts] at h
    split at h
    · rename_i v r' h1 h2
      cases h
      obtain ⟨k1, k2⟩ := evParts_rep hev h2
      refine ⟨by simp [k1], fun j p q hp hq => ?_⟩
      match j with
      | 0 =>
        simp at hp hq
        subst hp; subst hq
        exact ⟨rfl, hev x v h1⟩
      | j + 1 => exact k2 j p q (by simpa using hp) (by simpa using hq)
    · cases h
theorem Sim.newBox (h : Sim W0 R0 ns D s E a w) {nid : Nat} (hD : ¬ D nid) (e : TypeId) {cells : List SV} {vs : List Value} (hr : Reps E w cells vs) :
    ∃ E', Sim W0 R0 ns (fun k => k = nid ∨ D k) { s with mem := setMem s.mem nid (some (.box e cells false)) } E' a (w.alloc (.cells vs.toArray e)) ∧ Rep E' (w.alloc (.cells vs.toArray e)) (.ptr nid 0 0) (.pointer (some ⟨w.heap.size, 0, none⟩)) := by
  have hb : Below w.heap.size w (w.alloc (.cells vs.toArray e)) := (Below.refl _ _).alloc (Nat.le_refl _) _
  have hid : ¬ E.dom nid := fun hk => hD (h.dom nid hk)
  have hro : ∀ b, E.ro b → (w.alloc (.cells vs.toArray e)).heap[b]? = w.heap[b]? := fun b hb' => hb.block b (h.rlt b hb')
  have hE := E.le_add nid ⟨w.heap.size, 1, 0⟩ hid
  refine ⟨E.add nid ⟨w.heap.size, 1, 0⟩, h.new hD _ ⟨w.heap.size, 1, 0⟩ (h.kept hb) hro (fun k c hk => hb.block _ (h.mem k c hk).lt) ?_ (h.fresh (Nat.le_refl _)) rfl (fun hk => Nat.lt_irrefl _ (h.rlt _ hk)) (fun k c hk e => Nat.lt_irrefl _ (e ▸ (h.mem k c hk).lt)), ?_⟩
  · refine .box e cells false vs.toArray (heap_alloc_new w _) (by simpa using hr.1) hr.2.1 fun j c v hc hv => ?_
    exact (hr.2.2 j c v hc (by simpa using hv)).keep hE hro
  · have := Rep.ptr (E := E.add nid ⟨w.heap.size, 1, 0⟩) (w := w.alloc (.cells vs.toArray e)) nid 0 0 (.inl rfl)
    simpa [Env.add] using this
theorem Sim.newLin (h : Sim W0 R0 ns D s E a w) {nid : Nat} (hD : ¬ D nid) (e : TypeId) {cells : List SV} {vs : List Value} (hr : Reps E w cells vs) :
    ∃ E', Sim W0 R0 ns (fun k => k = nid ∨ D k) { s with mem := setMem s.mem nid (some (.box e cells false)) } E' a (w.alloc (.cells vs.toArray e)) ∧ Rep E' (w.alloc (.cells vs.toArray e)) (.lin nid cells.length) (.slice (some ⟨w.heap.size, 0, none⟩) cells.length cells.length) := by
  have hb : Below w.heap.size w (w.alloc (.cells vs.toArray e)) := (Below.refl _ _).alloc (Nat.le_refl _) _
  have hid : ¬ E.dom nid := fun hk => hD (h.dom nid hk)
  have hro : ∀ b, E.ro b → (w.alloc (.cells vs.toArray e)).heap[b]? = w.heap[b]? := fun b hb' => hb.block b (h.rlt b hb')
  have hE := E.le_add nid ⟨w.heap.size, cells.length, 1⟩ hid
  refine ⟨E.add nid ⟨w.heap.size, cells.length, 1⟩, h.new hD _ ⟨w.heap.size, cells.length, 1⟩ (h.kept hb) hro (fun k c hk => hb.block _ (h.mem k c hk).lt) ?_ (h.fresh (Nat.le_refl _)) rfl (fun hk => Nat.lt_irrefl _ (h.rlt _ hk)) (fun k c hk e => Nat.lt_irrefl _ (e ▸ (h.mem k c hk).lt)), ?_⟩
  · refine .box e cells false vs.toArray (heap_alloc_new w _) (by simpa using hr.1) hr.2.1 fun j c v hc hv => ?_
    exact (hr.2.2 j c v hc (by simpa using hv)).keep hE hro
  · have := Rep.lin (E := E.add nid ⟨w.heap.size, cells.length, 1⟩) (w := w.alloc (.cells vs.toArray e)) nid cells.length (.inl rfl) (by simp [Env.add]) (by simp [Env.add])
    simpa [Env.add] using this
theorem Sim.newRow (h : Sim W0 R0 ns D s E a w) {nid : Nat} (hD : ¬ D nid) (e : TypeId) (z : Nat) {rows : List (List Dat)} {vs : List Value} (hl : vs.length = rows.length * z) (hm : rows.length ≤ maxLen) (hz : ∀ r ∈ rows, r.length = z) (h1 : ∀ r ∈ rows, ∀ c ∈ r, c.one = true)
    (hr : ∀ (i j : Nat) r c v, rows[i]? = some r → r[j]? = some c → vs[i * z + j]? = some v → RepD E.ro w c v) :
    ∃ E', Sim W0 R0 ns (fun k => k = nid ∨ D k) { s with mem := setMem s.mem nid (some (.row e z rows false)) } E' a (w.alloc (.cells vs.toArray e)) ∧ Rep E' (w.alloc (.cells vs.toArray e)) (.own nid rows.length z) (.slice (some ⟨w.heap.size, 0, none⟩) rows.length rows.length) := by
  have hb : Below w.heap.size w (w.alloc (.cells vs.toArray e)) := (Below.refl _ _).alloc (Nat.le_refl _) _
  have hid : ¬ E.dom nid := fun hk => hD (h.dom nid hk)
  have hro : ∀ b, E.ro b → (w.alloc (.cells vs.toArray e)).heap[b]? = w.heap[b]? := fun b hb' => hb.block b (h.rlt b hb')
  have hE := E.le_add nid ⟨w.heap.size, rows.length, z⟩ hid
  refine ⟨E.add nid ⟨w.heap.size, rows.length, z⟩, h.new hD _ ⟨w.heap.size, rows.length, z⟩ (h.kept hb) hro (fun k c hk => hb.block _ (h.mem k c hk).lt) ?_ (h.fresh (Nat.le_refl _)) rfl (fun hk => Nat.lt_irrefl _ (h.rlt _ hk)) (fun k c hk e => Nat.lt_irrefl _ (e ▸ (h.mem k c hk).lt)), ?_⟩
  · refine .row e z rows false vs.toArray (heap_alloc_new w _) rfl (by simpa using hl) (Nat.le_refl _) hm hz h1 fun i j r c v hr' hc hv => ?_
    exact (hr i j r c v hr' hc (by simpa using hv)).keep hE.ro hro
  · have := Rep.own (E := E.add nid ⟨w.heap.size, rows.length, z⟩) (w := w.alloc (.cells vs.toArray e)) nid rows.length z (.inl rfl) (by simp [Env.add])
    simpa [Env.add] using this
end
end Go.Proofs.Ytdkneonokbakjaa.Eng

namespace Go.Proofs.Ytdkneonokbakjaa.Eng
open Go.RowKit
variable {P : Program} {T : Tab} {W0 : Fix} {R0 : Nat → Prop} {ns : Nat} {D : Nat → Prop} {s : St} {E : Env} {a : Act} {w : World}
theorem row_get (cur us : List Value) (o k : Nat) (h : o + us.length ≤ cur.length) : (cur.take o ++ us ++ cur.drop (o + us.length))[k]? = if o ≤ k ∧ k < o + us.length then us[k - o]? else cur[k]? := by
  have ht : (cur.take o).length = o := by simp; omega
  by_cases c1 : k < o
  · rw [if_neg (by omega), List.append_assoc, List.getElem?_append_left (by omega), List.getElem?_take, if_pos c1]
  · by_cases c2 : k < o + us.length
    · rw [if_pos (by omega), List.getElem?_append_left (by simp; omega), List.getElem?_append_right (by omega), ht]
    · rw [if_neg (by omega), List.getElem?_append_right (by simp; omega), List.getElem?_drop]
      congr 1
      simp
      omega
theorem rowD_get (cur us : List Dat) (o k : Nat) (h : o + us.length ≤ cur.length) : (spliceD cur o us)[k]? = if o ≤ k ∧ k < o + us.length then us[k - o]? else cur[k]? := by
  unfold spliceD
  have ht : (cur.take o).length = o := by simp; omega
  by_cases c1 : k < o
  · rw [if_neg (by omega), List.append_assoc, List.getElem?_append_left (by omega), List.getElem?_take, if_pos c1]
  · by_cases c2 : k < o + us.length
    · rw [if_pos (by omega), List.getElem?_append_left (by simp; omega), List.getElem?_append_right (by omega), ht]
    · rw [if_neg (by omega), List.getElem?_append_right (by simp; omega), List.getElem?_drop]
      congr 1
      simp
      omega
theorem storeAt_run {t : TypeId} {i : TI} (hi : TiOk P t i) {g o : Nat} {ty : TypeId} {cur : Array Value} {v : Value} (hg : w.heap[g]? = some (.cells cur ty (0, 0))) (hv : v.cells.size = i.size) (hle : o + i.size ≤ cur.size) (h1 : ∀ u ∈ v.cells.toList, u.oneCell' = true) :
    ∃ B : Array Value, (Instr.storeAt t (.pointer (some ⟨g, o, none⟩)) v).run P w = .ok () (w.setRow g B) ∧ B.size = cur.size ∧ ∀ k, B[k]? = if o ≤ k ∧ k < o + v.cells.size then v.cells[k - o]? else cur[k]? := by
  have h := run_storeCells_at P g o ty v.cells.toList 0 cur w hg (by simpa [hv] using hle) h1
  simp only [Nat.add_zero] at h
  refine ⟨(cur.toList.take o ++ v.cells.toList ++ cur.toList.drop (o + v.cells.toList.length)).toArray, ?_, ?_, fun k => ?_⟩
  · simp only [Instr.storeAt, Instr.sureAddr, storeVar, Sem.run_bind, Sem.run_pure, Result.andThen_ok, hi.sizeOf, hv, ne_eq, not_true_eq_false, if_false]
    exact h
  · simp; omega
  · rw [List.getElem?_toArray, row_get _ _ _ _ (by simp; omega)]
    simp
theorem grown_setRow (w : World) (g : Nat) (cs : Array Value) : w.grownBy (w.setRow g cs) (some g) := ⟨rfl, rfl, rfl, by simp, fun k _ hk => setRow_other w g k cs (fun e => hk (by rw [e]))⟩
theorem Reps.keep {cs : List SV} {vs : List Value} {E' : Env} {w' : World} (h : Reps E w cs vs) (hE : E.le E') (hw : ∀ b, E.ro b → w'.heap[b]? = w.heap[b]?) : Reps E' w' cs vs := ⟨h.1, h.2.1, fun i c v hc hv => (h.2.2 i c v hc hv).keep hE hw⟩
theorem Reps.ones {cs : List SV} {vs : List Value} (h : Reps E w cs vs) : ∀ u ∈ vs, u.oneCell' = true := fun u hu => by
  obtain ⟨i, hi, rfl⟩ := List.getElem_of_mem hu
  have hi' : i < cs.length := by have := h.1; omega
  exact (h.2.2 i _ _ (List.getElem?_eq_getElem hi') (List.getElem?_eq_getElem hi)).one (h.2.1 _ (List.getElem_mem hi'))
def OpOk (P : Program) (W0 : Fix) (R0 : Nat → Prop) (ns : Nat) (D : Nat → Prop) (nid : Nat) (s : St) (a : Act) (w : World) (o : Oper) (out : Out) : Prop :=
  ∃ E' w', Sim W0 R0 ns (fun k => k = nid ∨ D k) { s with mem := memApp s.mem nid out } E' a w' ∧
    ((∃ v, (execOp a.eval o).run P w = .ok (.value v) w' ∧ Rep E' w' out.res v) ∨ ((execOp a.eval o).run P w = .ok .skip w' ∧ out.res = .und))
theorem store_run (hT : TabOk P T) (h : Sim W0 R0 ns D s E a w) {nid : Nat} {o : Oper} {t : TypeId} {x y : Operand} (ho : o.op = .store t x y) {i : TI} (hi : T t = some i) {id r j : Nat} (hx : Rep E w (.ptr id r j) (a.eval x)) {v : SV} (hy : Rep E w v (a.eval y)) {out : Out}
    (hs : storeOut s.mem i id r j v = some out) : OpOk P W0 R0 ns D nid s a w o out := by
  have hk := hT t i hi
  obtain ⟨u, hu⟩ : ∃ u, a.eval x = u := ⟨_, rfl⟩
  rw [hu] at hx
  unfold storeOut at hs
  split at hs
  · rename_i hc
    have hY := hy.reps hc.1
    have hvs : (a.eval y).cells.size = i.size := by have := hY.1; simp at this; omega
    split at hs
    · rename_i ty cells hm
      split at hs
      · rename_i hc2
        obtain ⟨rfl, hle⟩ := hc2
        cases hs
        cases hx with
        | ptr _ _ _ hd =>
          have hro : ¬ E.ro (E.home id).blk := fun k => by have := (h.frz id _ hm).2 k; cases this
          cases h.mem id _ hm with
          | box _ _ _ cur h1 h2 h3 h4 =>
            obtain ⟨B, hrun, hBs, hB⟩ := storeAt_run (w := w) hk (g := (E.home id).blk) (o := 0 * (E.home id).esz + j) h1 hvs (by omega) hY.ones
            have hr2 : (execOp a.eval o).run P w = .ok .skip (w.setRow (E.home id).blk B) := by
              simp only [execOp, ho, hu, Sem.run_bind, hrun, Result.andThen_ok]
              rfl
            simp only [Nat.zero_mul, Nat.zero_add] at hB
            refine ⟨E, _, ?_, .inr ⟨hr2, rfl⟩⟩
            refine Sim.weak ?_ fun i hi => .inr hi
            refine h.write hm rfl rfl (grown_setRow _ _ _) ?_
            have hw : ∀ b, E.ro b → (w.setRow (E.home id).blk B).heap[b]? = w.heap[b]? := fun b hb => setRow_other _ _ _ _ (fun e => hro (e ▸ hb))
            have hC : Reps E w cells cur.toList := ⟨by simpa using h2, h3, fun i c v hc hv => h4 i c v hc (by simpa using hv)⟩
            have hR := (hC.keep (Env.le.refl E) hw).splice (hY.keep (Env.le.refl E) hw) j (by omega) B (by simpa using hBs) fun k => by
              rw [hB k]
              by_cases q : j ≤ k ∧ k < j + (a.eval y).cells.size
              · rw [if_pos q, if_pos ⟨q.1, by simpa using q.2, by simp; omega⟩]; simp
              · rw [if_neg q, if_neg (fun q' => q ⟨q'.1, by simpa using q'.2.1⟩)]; simp
            exact .box ty _ _ _ (setRow_heap _ _ _ _ _ _ h1) (by simpa using hR.1) hR.2.1 fun i c v hc hv => hR.2.2 i c v hc (by simpa using hv)
      · cases hs
    · rename_i ty z rows hm
      split at hs
      · rename_i row ds is hrow hesc
        split at hs
        · rename_i hc2
          obtain ⟨hle, hnid⟩ := hc2
          cases hs
          cases hx with
          | ptr _ _ _ hd =>
            obtain ⟨E1, e1, e2, e3, e4, e5⟩ := h.freezes is (escL_ids hesc)
            have hmid : ∀ (l : List Nat) (m : Nat → Option Blk), id ∉ l → frzM m l id = m id := by
              intro l
              induction l with
              | nil => intro m _; rfl
              | cons k l ih =>
                intro m hn
                simp only [frzM]
                rw [ih _ (fun hh => hn (List.mem_cons_of_mem _ hh)), setMem, if_neg (fun (e : id = k) => hn (e ▸ List.mem_cons_self))]
            have hm1 : frzM s.mem is id = some (.row ty z rows false) := (hmid is s.mem hnid).trans hm
            have hro : ¬ E1.ro (E1.home id).blk := fun k => by have := (e2.frz id _ hm1).2 k; cases this
            have hho : E1.home id = E.home id := by rw [e4]
            have hDs := escL_rep (m0 := s.mem) (m := frzM s.mem is) (fun i t z rows f hh => frzM_row hh) (fun i b hb => e2.mem i b hb) hesc e3
            have hY1 := hY.keep e1 (fun _ _ => rfl)
            have hrep1 : ∀ (k : Nat) d u, ds[k]? = some d → (a.eval y).cells.toList[k]? = some u → RepD E1.ro w d u := fun k d u hd' hu' => by
              have hk1 : k < v.cells.length := by have := (List.getElem?_eq_some_iff.1 hd').1; have := hDs.1; omega
              exact (hDs.2 k _ d u (List.getElem?_eq_getElem hk1) hd' (hY1.2.2 k _ u (List.getElem?_eq_getElem hk1) hu')).1
            have hone1 : ∀ d ∈ ds, d.one = true := fun d hd' => by
              obtain ⟨k, hk', rfl⟩ := List.getElem_of_mem hd'
              have hk1 : k < v.cells.length := by have := hDs.1; omega
              have hk2 : k < (a.eval y).cells.toList.length := by have := hY.1; omega
              exact (hDs.2 k _ _ _ (List.getElem?_eq_getElem hk1) (List.getElem?_eq_getElem hk') (hY1.2.2 k _ _ (List.getElem?_eq_getElem hk1) (List.getElem?_eq_getElem hk2))).2 (hY.2.1 _ (List.getElem_mem hk1))
            cases e2.mem id _ hm1 with
            | row _ _ _ _ cur h1 h2 h3 h4 h5 h6 h7 h8 =>
              have hrl := h6 row (List.mem_of_getElem? hrow)
              have hlt : r < rows.length := (List.getElem?_eq_some_iff.1 hrow).1
              have hcs : r * z + z ≤ cur.size := by
                rw [h3]
                calc r * z + z = (r + 1) * z := by rw [Nat.add_mul, Nat.one_mul]
                  _ ≤ (E1.home id).cap * z := Nat.mul_le_mul_right _ (by omega)
              rw [hho] at h1 h2
              obtain ⟨B, hrun, hBs, hB⟩ := storeAt_run (w := w) hk (g := (E.home id).blk) (o := r * (E.home id).esz + j) h1 hvs (by rw [h2]; omega) hY.ones
              have hr2 : (execOp a.eval o).run P w = .ok .skip (w.setRow (E.home id).blk B) := by
                simp only [execOp, ho, hu, Sem.run_bind, hrun, Result.andThen_ok]
                rfl
              rw [h2] at hB
              refine ⟨E1, _, ?_, .inr ⟨hr2, rfl⟩⟩
              refine Sim.weak ?_ fun i hi => .inr hi
              have hdl : ds.length = i.size := by have := hDs.1; omega
              have hg := grown_setRow w (E.home id).blk B
              rw [← hho] at hg ⊢
              have hw : ∀ b, E1.ro b → (w.setRow (E1.home id).blk B).heap[b]? = w.heap[b]? := fun b hb => setRow_other _ _ _ _ (fun e => hro (e ▸ hb))
              have hnew : ∀ r' ∈ rows.set r (spliceD row j ds), r'.length = z ∧ ∀ c ∈ r', c.one = true := fun r' hr' => by
                rcases List.mem_or_eq_of_mem_set hr' with hr' | rfl
                · exact ⟨h6 r' hr', h7 r' hr'⟩
                · refine ⟨by simp [spliceD]; omega, fun c hc => ?_⟩
                  unfold spliceD at hc
                  rcases List.mem_append.1 hc with hc | hc
                  · rcases List.mem_append.1 hc with hc | hc
                    · exact h7 row (List.mem_of_getElem? hrow) c (List.mem_of_mem_take hc)
                    · exact hone1 c hc
                  · exact h7 row (List.mem_of_getElem? hrow) c (List.mem_of_mem_drop hc)
              refine e2.write hm1 rfl rfl hg (.row ty z _ false _ (setRow_heap _ _ _ _ _ _ (by rw [hho]; exact h1)) (by rw [hho]; exact h2) (hBs.trans h3) (by simpa using h4) h5 (fun r' hr' => (hnew r' hr').1) (fun r' hr' => (hnew r' hr').2) fun i' j' r' c v' hr' hc hv' => ?_)
              rw [hB] at hv'
              refine RepD.keep (ro := E1.ro) (w := w) ?_ (fun _ h => h) hw
              by_cases ei : i' = r
              · subst ei
                rw [List.getElem?_set_self hlt, Option.some.injEq] at hr'
                subst hr'
                rw [rowD_get _ _ _ _ (by omega)] at hc
                by_cases q : j ≤ j' ∧ j' < j + ds.length
                · rw [if_pos q] at hc
                  rw [if_pos (by omega), show i' * z + j' - (i' * z + j) = j' - j by omega] at hv'
                  exact hrep1 _ c v' hc (by simpa using hv')
                · rw [if_neg q] at hc
                  rw [if_neg (by omega)] at hv'
                  exact h8 i' j' row c v' hrow hc hv'
              · rw [List.getElem?_set_ne (Ne.symm ei)] at hr'
                have hj' : j' < z := by have := (List.getElem?_eq_some_iff.1 hc).1; have := h6 r' (List.mem_of_getElem? hr'); omega
                rw [if_neg] at hv'
                · exact h8 i' j' r' c v' hr' hc hv'
                · rintro ⟨q1, q2⟩
                  rcases Nat.lt_or_gt_of_ne ei with hlt' | hgt
                  · have := Nat.mul_le_mul_right z (show i' + 1 ≤ r by omega)
                    rw [Nat.add_mul, Nat.one_mul] at this
                    omega
                  · have := Nat.mul_le_mul_right z (show r + 1 ≤ i' by omega)
                    rw [Nat.add_mul, Nat.one_mul] at this
                    omega
        · cases hs
      · cases hs
    · cases hs
  · cases hs
end Go.Proofs.Ytdkneonokbakjaa.Eng

namespace Go.Proofs.Ytdkneonokbakjaa.Eng
open Go.RowKit
variable {P : Program} {T : Tab} {W0 : Fix} {R0 : Nat → Prop} {ns : Nat} {D : Nat → Prop} {s : St} {E : Env} {a : Act} {w : World}
theorem ix_div (i j z : Nat) (h : j < z) : (i * z + j) / z = i ∧ (i * z + j) % z = j := by
  have hz : 0 < z := by omega
  constructor
  · rw [Nat.mul_comm, Nat.mul_add_div hz, Nat.div_eq_of_lt h, Nat.add_zero]
  · rw [Nat.mul_comm, Nat.mul_add_mod, Nat.mod_eq_of_lt h]
theorem ix_lt {i j z n : Nat} (hi : i < n) (hj : j < z) : i * z + j < n * z := by
  have := Nat.mul_le_mul_right z (show i + 1 ≤ n by omega)
  rw [Nat.add_mul, Nat.one_mul] at this
  omega
structure Src (E : Env) (w : World) (x : Value) (z : Nat) (rows : List (List Dat)) (A : Option Addr) (c : Nat) (news : List Value) : Prop where
  val : x = .slice A rows.length c
  len : news.length = rows.length * z
  rowlen : ∀ r ∈ rows, r.length = z
  ones : ∀ r ∈ rows, ∀ c ∈ r, c.one = true
  nil : A = none → rows = []
  cells : ∀ ad, A = some ad → ∀ (j : Nat) u, news[j]? = some u → w.cell? (ad.add j) = some u
  one : ∀ u ∈ news, u.oneCell' = true
  rep : ∀ (i j : Nat) r c v, rows[i]? = some r → r[j]? = some c → news[i * z + j]? = some v → RepD E.ro w c v
theorem srcRows_rep (hm : ∀ i b, s.mem i = some b → Holds E w (E.home i) b) {z : Nat} {x : SV} {v : Value} {rows : List (List Dat)} (h : srcRows s.mem z x = some rows) (hx : Rep E w x v) : ∃ A c news, Src E w v z rows A c news := by
  unfold srcRows at h
  split at h
  · rename_i rows'
    split at h
    · rename_i hz
      cases h
      cases hx with
      | d _ _ hx =>
        cases hx with
        | list _ A c f h1 h2 h3 h4 h5 =>
          have ones : ∀ u ∈ (List.range (rows.length * z)).map (fun k => f (k / z) (k % z)), u.oneCell' = true := fun u hu => by
            obtain ⟨k, hk, rfl⟩ := List.mem_map.1 hu
            have hk := List.mem_range.1 hk
            have hz0 : 0 < z := by
              rcases Nat.eq_zero_or_pos z with h | h
              · subst h; simp at hk
              · exact h
            have hi : k / z < rows.length := Nat.div_lt_of_lt_mul (by rw [Nat.mul_comm]; exact hk)
            have hj : k % z < rows[k / z].length := by rw [hz _ (List.getElem_mem hi)]; exact Nat.mod_lt _ hz0
            exact (h5 _ _ _ _ (List.getElem?_eq_getElem hi) (List.getElem?_eq_getElem hj)).one (h3 _ (List.getElem_mem hi) _ (List.getElem_mem hj))
          refine ⟨A, c, (List.range (rows.length * z)).map (fun k => f (k / z) (k % z)), rfl, by simp, hz, h3, fun hA => ?_, fun ad hA j u hu => ?_, ones, fun i j r c v hr hc hv => ?_⟩
          · rcases Nat.eq_zero_or_pos rows.length with h | h
            · exact List.eq_nil_of_length_eq_zero h
            · obtain ⟨b, off, esz, hb, _⟩ := h4 h
              rw [hA] at hb
              cases hb
          · have hj : j < rows.length * z := by have := (List.getElem?_eq_some_iff.1 hu).1; simpa using this
            have hz0 : 0 < z := by
              rcases Nat.eq_zero_or_pos z with h | h
              · subst h; simp at hj
              · exact h
            have hi : j / z < rows.length := Nat.div_lt_of_lt_mul (by rw [Nat.mul_comm]; exact hj)
            obtain ⟨b, off, esz, hb, _, hez, hcell⟩ := h4 (Nat.lt_of_le_of_lt (Nat.zero_le _) hi)
            rw [hA] at hb
            cases hb
            have e : esz = z := by rw [← hez _ (List.getElem_mem hi), hz _ (List.getElem_mem hi)]
            subst e
            have h6 := hcell (j / esz) (j % esz) hi (Nat.mod_lt _ hz0)
            rw [Nat.add_assoc, Nat.div_add_mod'] at h6
            rw [Addr.add_lit, h6]
            have e2 : u = f (j / esz) (j % esz) := by simpa [hj, eq_comm] using hu
            rw [e2]
          · have hi := (List.getElem?_eq_some_iff.1 hr).1
            have hj := (List.getElem?_eq_some_iff.1 hc).1
            rw [hz r (List.mem_of_getElem? hr)] at hj
            have hlt := ix_lt hi hj
            obtain ⟨d1, d2⟩ := ix_div i j z hj
            have e2 : v = f i j := by
              rw [List.getElem?_map, List.getElem?_range hlt] at hv
              simp only [Option.map_some, d1, d2] at hv
              exact (Option.some.inj hv).symm
            rw [e2]
            exact h5 i j r c hr hc
    · cases h
  · rename_i id n z'
    split at h
    · rename_i ty z'' rows' f hmi
      split at h
      · rename_i hc
        cases h
        obtain ⟨rfl, rfl, rfl⟩ := hc
        cases hx with
        | own _ _ _ hd hz' =>
          cases hm id _ hmi with
          | row _ _ _ _ cur h1 h2 h3 h4 h5 h6 h7 h8 =>
            have hle : rows.length * z'' ≤ cur.size := by rw [h3]; exact Nat.mul_le_mul_right _ h4
            refine ⟨_, _, cur.toList.take (rows.length * z''), rfl, by simp; omega, h6, h7, (fun h => by cases h), fun ad had j u hu => ?_, fun u hu => ?_, fun i j r c v hr hc hv => ?_⟩
            · cases had
              rw [Addr.add_lit, cell_of_row w _ _ cur ty (0, 0) h1]
              rw [List.getElem?_take] at hu
              split at hu
              · simpa using hu
              · cases hu
            · obtain ⟨k, hk, rfl⟩ := List.getElem_of_mem hu
              have hk' : k < rows.length * z'' := by simp at hk; omega
              have hz0 : 0 < z'' := by
                rcases Nat.eq_zero_or_pos z'' with h | h
                · subst h; simp at hk'
                · exact h
              have hi : k / z'' < rows.length := Nat.div_lt_of_lt_mul (by rw [Nat.mul_comm]; exact hk')
              have hj : k % z'' < rows[k / z''].length := by rw [h6 _ (List.getElem_mem hi)]; exact Nat.mod_lt _ hz0
              have h9 := h8 (k / z'') (k % z'') _ _ (cur.toList.take (rows.length * z''))[k] (List.getElem?_eq_getElem hi) (List.getElem?_eq_getElem hj) (by rw [Nat.div_add_mod']; simp)
              exact h9.one (h7 _ (List.getElem_mem hi) _ (List.getElem_mem hj))
            · rw [List.getElem?_take] at hv
              split at hv
              · exact h8 i j r c v hr hc (by simpa using hv)
              · cases hv
      · cases h
    · cases h
  · cases h
theorem holds_append {w' : World} {e : TypeId} {z n m : Nat} {rows xr : List (List Dat)} {xs news : List Value} {g cap : Nat} {cur : Array Value} {E' : Env} (hg : w'.heap[g]? = some (.cells cur e (0, 0))) (hn : rows.length = n) (hxm : xr.length = m) (hnc : n + m ≤ cap) (hcm : cap ≤ maxLen) (hcs : cur.size = cap * z) (htake : cur.toList.take ((n + m) * z) = xs ++ news)
    (hxl : xs.length = n * z) (hz1 : ∀ r ∈ rows, r.length = z) (hz2 : ∀ r ∈ xr, r.length = z) (ho1 : ∀ r ∈ rows, ∀ c ∈ r, c.one = true) (ho2 : ∀ r ∈ xr, ∀ c ∈ r, c.one = true)
    (hr1 : ∀ (i j : Nat) r c v, rows[i]? = some r → r[j]? = some c → xs[i * z + j]? = some v → RepD E'.ro w' c v) (hr2 : ∀ (i j : Nat) r c v, xr[i]? = some r → r[j]? = some c → news[i * z + j]? = some v → RepD E'.ro w' c v) :
    Holds E' w' ⟨g, cap, z⟩ (.row e z (rows ++ xr) false) := by
  refine .row e z _ false cur hg rfl hcs (by simp; omega) hcm (fun r hr => ?_) (fun r hr => ?_) fun i j r c v hr hc hv => ?_
  · rcases List.mem_append.1 hr with h | h
    · exact hz1 r h
    · exact hz2 r h
  · rcases List.mem_append.1 hr with h | h
    · exact ho1 r h
    · exact ho2 r h
  · have hi : i < n + m := by have := (List.getElem?_eq_some_iff.1 hr).1; simp at this; omega
    have hj : j < z := by
      have h1 := (List.getElem?_eq_some_iff.1 hc).1
      rcases List.mem_append.1 (List.mem_of_getElem? hr) with h | h
      · rw [hz1 r h] at h1; exact h1
      · rw [hz2 r h] at h1; exact h1
    have hlt := ix_lt hi hj
    have hv2 : (xs ++ news)[i * z + j]? = some v := by
      rw [← htake, List.getElem?_take, if_pos hlt]
      simpa using hv
    by_cases c1 : i < rows.length
    · rw [List.getElem?_append_left c1] at hr
      rw [List.getElem?_append_left (by rw [hxl]; exact ix_lt (by omega) hj)] at hv2
      exact hr1 i j r c v hr hc hv2
    · rw [List.getElem?_append_right (by omega)] at hr
      have h2 : xs.length ≤ i * z + j := by
        rw [hxl]
        have := Nat.mul_le_mul_right z (show n ≤ i by omega)
        omega
      rw [List.getElem?_append_right h2, show i * z + j - xs.length = (i - rows.length) * z + j by rw [hxl, Nat.sub_mul, hn]; have := Nat.mul_le_mul_right z (show n ≤ i by omega); omega] at hv2
      exact hr2 _ j r c v hr hc hv2
theorem append_run (hT : TabOk P T) (h : Sim W0 R0 ns D s E a w) {nid : Nat} (hD : ¬ D nid) {o : Oper} {x y : Operand} {t e : TypeId} (ho : o.op = .call { callee := .builtin .append, args := #[x, y], argTypes := #[t, t] }) {i ie : TI} (hi : T t = some i) (hk : i.kind = .slice e) (hie : T e = some ie) (hpos : 0 < ie.size)
    {sv xv : SV} (hx : Rep E w sv (a.eval x)) (hy : Rep E w xv (a.eval y)) {xr : List (List Dat)} (hsrc : srcRows s.mem ie.size xv = some xr) {out : Out} (hs : appendOut s.mem nid e ie sv xr = some out) : OpOk P W0 R0 ns D nid s a w o out := by
  have hu := slice_und (hT t i hi) hk
  obtain ⟨inf, z0, i1, i2, i3, i4, i5⟩ := (hT e ie hie).info
  have hzs : z0.cells.size = ie.size := by rw [i5]; simp [(hT e ie hie).len]
  obtain ⟨A, c, news, src⟩ := srcRows_rep h.mem hsrc hy
  have hid : ¬ E.dom nid := fun hk => hD (h.dom nid hk)
  obtain ⟨u, hxu⟩ : ∃ u, a.eval x = u := ⟨_, rfl⟩
  rw [hxu] at hx
  -- what append does, in all cases
  have exec : ∀ {v' : Value} {w' : World}, (Builtin.append_ #[t, t] o.type #[u, a.eval y]).run P w = .ok v' w' → (execOp a.eval o).run P w = .ok (.value v') w' := fun {v' w'} hr => by
    simp only [execOp, ho, resolve, invoke, builtin, Sem.run_bind, Sem.run_pure, Result.andThen_ok, List.map_toArray, List.map_cons, List.map_nil, hxu, hr]
  unfold appendOut at hs
  split at hs
  · -- onto nothing
    split at hs
    · rename_i hc
      obtain ⟨c1, c23⟩ := hc
      obtain ⟨c2, c3⟩ := fitsB_iff.1 c23
      cases hs
      cases hx
      obtain ⟨ad, rfl⟩ : ∃ ad, A = some ad := by
        cases A with
        | none => have := src.nil rfl; subst this; simp at c1
        | some ad => exact ⟨ad, rfl⟩
      obtain ⟨v', w', hr, hown, hgr, hnil, hat⟩ := run_append_own_at (P := P) w 0 t o.type e inf z0 ie.size ie.bytes hu i1 i4 i2 i3 hzs hpos (.slice none 0 0) 0 [] (World.ownsRow_nil _ _ _ _) ad xr.length c news src.len (src.cells ad rfl) src.one (by omega) (by simpa using c2) (Nat.zero_le _)
      rw [src.val] at exec
      have he := exec hr
      rcases hown.2 with ⟨rfl, h0⟩ | ⟨g, cap, cur, rfl, _, hg, hnc, hcm, hcs, htake⟩
      · omega
      · have hgb : g = w.heap.size := by
          rcases hat with h | h
          · simp [Value.ownBlock] at h
          · simpa [Value.ownBlock] using h
        subst hgb
        have hb : Below w.heap.size w w' := ⟨hgr.os, hgr.tape, hgr.output, hgr.size, fun k hk => hgr.block k hk (by simp [Value.ownBlock])⟩
        have hro : ∀ b, E.ro b → w'.heap[b]? = w.heap[b]? := fun b hb' => hb.block b (h.rlt b hb')
        refine ⟨E.add nid ⟨w.heap.size, cap, ie.size⟩, w', h.new hD _ _ (h.kept hb) hro (fun k c hk => hb.block _ (h.mem k c hk).lt) ?_ (h.fresh (Nat.le_refl _)) rfl (fun hk => Nat.lt_irrefl _ (h.rlt _ hk)) (fun k c hk e => Nat.lt_irrefl _ (e ▸ (h.mem k c hk).lt)), .inl ⟨_, he, ?_⟩⟩
        · have := holds_append (E' := E.add nid ⟨w.heap.size, cap, ie.size⟩) (rows := []) (xr := xr) (xs := []) (news := news) (n := 0) (m := xr.length) hg rfl rfl (by simpa using hnc) hcm hcs htake (by simp) (by simp) src.rowlen (by simp) src.ones (by simp) fun i j r c v hr hc hv => (src.rep i j r c v hr hc hv).keep (fun _ h => h) hro
          simpa using this
        · have := Rep.own (E := E.add nid ⟨w.heap.size, cap, ie.size⟩) (w := w') nid xr.length ie.size (.inl rfl) (by simp [Env.add])
          simpa [Env.add] using this
    · cases hs
  · rename_i id n z
    split at hs
    · rename_i ty z' rows hm
      split at hs
      · rename_i hc
        obtain ⟨rfl, rfl, rfl, rfl, c12⟩ := hc
        obtain ⟨c1, c2⟩ := fitsB_iff.1 c12
        cases hs
        cases hx with
        | own _ _ _ hd hz' =>
          have hro0 : ¬ E.ro (E.home id).blk := fun k => by have := (h.frz id _ hm).2 k; cases this
          cases h.mem id _ hm with
          | row _ _ _ _ cur h1 h2 h3 h4 h5 h6 h7 h8 =>
            have hle : rows.length * ie.size ≤ cur.size := by rw [h3]; exact Nat.mul_le_mul_right _ h4
            have hown0 : w.ownsRow 0 ty ie.size (.slice (some ⟨(E.home id).blk, 0, none⟩) rows.length (E.home id).cap) rows.length (cur.toList.take (rows.length * ie.size)) :=
              ⟨by simp; omega, .inr ⟨_, _, cur, rfl, Nat.zero_le _, h1, h4, h5, h3, rfl⟩⟩
            have h0 := h.drop id
            have fin : ∀ {v' : Value} {w' : World}, (Builtin.append_ #[t, t] o.type #[.slice (some ⟨(E.home id).blk, 0, none⟩) rows.length (E.home id).cap, a.eval y]).run P w = .ok v' w' →
                w'.ownsRow 0 ty ie.size v' (rows.length + xr.length) (cur.toList.take (rows.length * ie.size) ++ news) → w.grownBy w' (some (E.home id).blk) → (v'.ownBlock = some (E.home id).blk ∨ v'.ownBlock = some w.heap.size) → OpOk P W0 R0 ns D nid s a w o
                  { res := .own nid (rows.length + xr.length) ie.size, wr := some (id, none), nw := some (.row ty ie.size (rows ++ xr) false) } := by
              intro v' w' hr hown hgr hat
              have he := exec hr
              rcases hown.2 with ⟨rfl, hz0⟩ | ⟨g, cap, cur', rfl, _, hg, hnc, hcm, hcs, htake⟩
              · rcases hat with h | h <;> simp [Value.ownBlock] at h
              · have hgb : g = (E.home id).blk ∨ g = w.heap.size := by simpa [Value.ownBlock] using hat
                have hro : ∀ b, E.ro b → w'.heap[b]? = w.heap[b]? := fun b hb' => hgr.block b (h.rlt b hb') (fun e => hro0 (Option.some.inj e ▸ hb'))
                have hb : Kept W0.U w w' := ⟨hgr.os, hgr.tape, hgr.output, hgr.size, fun k hk => hgr.block k (Nat.lt_of_lt_of_le (W0.lt k hk) h.below.size) (fun e => h.base id _ hm (Option.some.inj e ▸ hk))⟩
                have hfar : ∀ k c, (setMem s.mem id none) k = some c → s.mem k = some c ∧ k ≠ id := fun k c hk => by
                  unfold setMem at hk
                  split at hk
                  · cases hk
                  · rename_i hne; exact ⟨hk, hne⟩
                refine ⟨E.add nid ⟨g, cap, ie.size⟩, w', h0.new hD _ _ hb hro (fun k c hk => hgr.block _ (h0.mem k c hk).lt (fun e => h.inj k id c _ (hfar k c hk).1 hm (hfar k c hk).2 (Option.some.inj e))) ?_ ?_ rfl ?_ ?_, .inl ⟨_, he, ?_⟩⟩
                · exact holds_append (E' := E.add nid ⟨g, cap, ie.size⟩) hg rfl rfl hnc hcm hcs htake (by simp; omega) h6 src.rowlen h7 src.ones (fun i j r c v hr hc hv => by
                    rw [List.getElem?_take] at hv
                    split at hv
                    · exact (h8 i j r c v hr hc (by simpa using hv)).keep (fun _ h => h) hro
                    · cases hv) fun i j r c v hr hc hv => (src.rep i j r c v hr hc hv).keep (fun _ h => h) hro
                · rcases hgb with rfl | rfl
                  · exact h.base id _ hm
                  · exact h.fresh (Nat.le_refl _)
                · rcases hgb with rfl | rfl
                  · exact hro0
                  · exact fun hk => Nat.lt_irrefl _ (h.rlt _ hk)
                · intro k c hk e
                  have hf := hfar k c hk
                  rcases hgb with rfl | rfl
                  · exact h.inj k id c _ hf.1 hm hf.2 e
                  · exact Nat.lt_irrefl _ (e ▸ (h.mem k c hf.1).lt)
                · have := Rep.own (E := E.add nid ⟨g, cap, ie.size⟩) (w := w') nid (rows.length + xr.length) ie.size (.inl rfl) (by simp [Env.add])
                  simpa [Env.add] using this
            cases A with
            | some ad =>
              obtain ⟨v', w', hr, hown, hgr, hnil, hat⟩ := run_append_own_at (P := P) w 0 t o.type ty inf z0 ie.size ie.bytes hu i1 i4 i2 i3 hzs hpos _ rows.length _ hown0 ad xr.length c news src.len (src.cells ad rfl) src.one c2 c1 (Nat.zero_le _)
              rw [← src.val] at hr
              exact fin hr hown hgr hat
            | none =>
              have hx0 := src.nil rfl
              subst hx0
              have hn0 : news = [] := List.eq_nil_of_length_eq_zero (by simpa using src.len)
              subst hn0
              refine fin (v' := .slice (some ⟨(E.home id).blk, 0, none⟩) rows.length (E.home id).cap) (w' := w) ?_ (by simpa using hown0) ⟨rfl, rfl, rfl, Nat.le_refl _, fun _ _ _ => rfl⟩ (.inl rfl)
              rw [src.val]
              simp [Builtin.append_, run_underlying hu, sizeOf, typeInfo, i1, Builtin.lenOf, h4, Builtin.firstCells, storeCells]
      · cases hs
    · cases hs
  · -- onto a list without room
    rename_i rows
    split at hs
    · rename_i hc
      obtain ⟨c1, cz, c23⟩ := hc
      obtain ⟨c2, c3⟩ := fitsB_iff.1 c23
      cases hs
      cases hx with
      | full _ A0 hd =>
        have hsrc0 : srcRows s.mem ie.size (.d (.list rows)) = some rows := by unfold srcRows; exact if_pos cz
        obtain ⟨A1, cA, olds, src0⟩ := srcRows_rep h.mem hsrc0 (.d _ _ hd)
        have hv := src0.val
        simp only [Value.slice.injEq, true_and] at hv
        obtain ⟨rfl, rfl⟩ := hv
        obtain ⟨ad, rfl⟩ : ∃ ad, A = some ad := by
          cases A with
          | none => have := src.nil rfl; subst this; simp at c1
          | some ad => exact ⟨ad, rfl⟩
        have fin : ∀ {v' : Value} {w' : World}, (Builtin.append_ #[t, t] o.type #[.slice A0 rows.length rows.length, .slice (some ad) xr.length c]).run P w = .ok v' w' → w'.ownsRow w.heap.size e ie.size v' (rows.length + xr.length) (olds ++ news) → w.grownBy w' none →
            OpOk P W0 R0 ns D nid s a w o { res := .own nid (rows.length + xr.length) ie.size, nw := some (.row e ie.size (rows ++ xr) false) } := by
          intro v' w' hr hown hgr
          rw [src.val] at exec
          have he := exec hr
          rcases hown.2 with ⟨rfl, h0⟩ | ⟨g, cap, cur, rfl, hbase, hg, hnc, hcm, hcs, htake⟩
          · omega
          · have hb : Below w.heap.size w w' := ⟨hgr.os, hgr.tape, hgr.output, hgr.size, fun k hk => hgr.block k hk (by simp)⟩
            have hro : ∀ b, E.ro b → w'.heap[b]? = w.heap[b]? := fun b hb' => hb.block b (h.rlt b hb')
            refine ⟨E.add nid ⟨g, cap, ie.size⟩, w', h.new hD _ _ (h.kept hb) hro (fun k c hk => hb.block _ (h.mem k c hk).lt) ?_ (h.fresh hbase) rfl (fun hk => by have := h.rlt _ hk; simp only at this; omega) (fun k c hk e => by have := (h.mem k c hk).lt; simp only at e; omega), .inl ⟨_, he, ?_⟩⟩
            · exact holds_append (E' := E.add nid ⟨g, cap, ie.size⟩) hg rfl rfl hnc hcm hcs htake src0.len src0.rowlen src.rowlen src0.ones src.ones (fun i j r c v hr hc hv => (src0.rep i j r c v hr hc hv).keep (fun _ h => h) hro) fun i j r c v hr hc hv => (src.rep i j r c v hr hc hv).keep (fun _ h => h) hro
            · have := Rep.own (E := E.add nid ⟨g, cap, ie.size⟩) (w := w') nid (rows.length + xr.length) ie.size (.inl rfl) (by simp [Env.add])
              simpa [Env.add] using this
        cases A0 with
        | some b =>
          obtain ⟨v', w', hr, hown, hgr⟩ := run_append_arg_grows (P := P) w t o.type e inf z0 ie.size ie.bytes hu i1 i4 i2 i3 hzs hpos b rows.length rows.length olds src0.len (src0.cells b rfl) ad xr.length c news src.len (src.cells ad rfl) (by omega) (by omega) c2
          exact fin hr hown hgr
        | none =>
          have hx0 := src0.nil rfl
          subst hx0
          have hn0 : olds = [] := List.eq_nil_of_length_eq_zero (by simpa using src0.len)
          subst hn0
          obtain ⟨v', w', hr, hown, hgr, hnil, hat⟩ := run_append_own_at (P := P) w w.heap.size t o.type e inf z0 ie.size ie.bytes hu i1 i4 i2 i3 hzs hpos (.slice none 0 0) 0 [] (World.ownsRow_nil _ _ _ _) ad xr.length c news src.len (src.cells ad rfl) src.one (by omega) (by simpa using c2) (Nat.le_refl _)
          exact fin (by simpa using hr) (by simpa using hown) (by simpa [Value.ownBlock] using hgr)
    · cases hs
  · cases hs
end Go.Proofs.Ytdkneonokbakjaa.Eng

namespace Go.Proofs.Ytdkneonokbakjaa.Eng
open Go.RowKit
variable {P : Program} {T : Tab} {W0 : Fix} {R0 : Nat → Prop} {ns : Nat} {D : Nat → Prop} {s : St} {E : Env} {a : Act} {w : World}
theorem make_run (hT : TabOk P T) (h : Sim W0 R0 ns D s E a w) {nid : Nat} (hD : ¬ D nid) {o : Oper} {t e : TypeId} {x y : Operand} (ho : o.op = .makeSlice t x y) {i ie : TI} (hi : T t = some i) (hk : i.kind = .slice e) (hie : T e = some ie) {k1 k2 : IntKind} {n : Int}
    (hx : a.eval x = .int k1 n) (hy : a.eval y = .int k2 n) (h0 : 0 ≤ n) (h1 : (ie.bytes : Int) * n ≤ 140737488355328) (h2 : n ≤ 9223372036854775807) :
    OpOk P W0 R0 ns D nid s a w o { res := .own nid n.toNat ie.size, nw := some (.row e ie.size (List.replicate n.toNat (ie.zero.map cD)) false) } := by
  have hu := slice_und (hT t i hi) hk
  have hte := hT e ie hie
  obtain ⟨inf, z0, i1, i2, i3, i4, i5⟩ := hte.info
  have hr := run_make (P := P) w t e inf z0 hu i1 i4 k1 k2 n n h0 (Int.le_refl _) (by rw [i3]; omega) h2
  rw [i2] at hr
  obtain ⟨m, rfl⟩ := Int.eq_ofNat_of_zero_le h0
  simp only [Int.toNat_natCast] at hr ⊢
  have hcell : ∀ (i j : Nat), i < m → j < ie.size → (madeCells z0.cells (m * ie.size)).toList[i * ie.size + j]? = ie.zero[j]? := fun i j hi hj => by
    have hlt := ix_lt hi hj
    have hs : z0.cells.size = ie.size := by rw [i5]; simp [hte.len]
    rw [Array.getElem?_toList, madeCells, Array.getElem?_map, Array.getElem?_range, if_pos hlt]
    simp only [Option.map_some, hs, (ix_div i j ie.size hj).2]
    rw [i5]
    have : j < ie.zero.length := by rw [hte.len]; exact hj
    simp [this]
  obtain ⟨E', e1, e2⟩ := h.newRow hD e ie.size (rows := List.replicate m (ie.zero.map cD)) (vs := (madeCells z0.cells (m * ie.size)).toList) (by simp [size_madeCells]) (by simp only [List.length_replicate, maxLen]; omega) (fun r hr => by rw [List.eq_of_mem_replicate hr]; simp [hte.len])
    (fun r hr c hc => by
      rw [List.eq_of_mem_replicate hr] at hc
      obtain ⟨v, hv, rfl⟩ := List.mem_map.1 hc
      exact (cD_rep (ro := E.ro) (w := w) (hte.one v hv)).2)
    (fun i j r c v hr hc hv => by
      have hi : i < m := by have := (List.getElem?_eq_some_iff.1 hr).1; simpa using this
      rw [List.eq_of_mem_replicate (List.mem_of_getElem? hr), List.getElem?_map, Option.map_eq_some_iff] at hc
      obtain ⟨u0, hu', rfl⟩ := hc
      have hj : j < ie.size := by have := (List.getElem?_eq_some_iff.1 hu').1; rwa [hte.len] at this
      rw [hcell i j hi hj, hu'] at hv
      cases hv
      exact (cD_rep (hte.one _ (List.mem_of_getElem? hu'))).1)
  simp only [List.length_replicate, Array.toArray_toList] at e1 e2
  refine ⟨E', _, e1, .inl ⟨_, ?_, e2⟩⟩
  simp only [execOp, ho, hx, hy, Sem.run_bind, hr, Result.andThen_ok]
  rfl
theorem makeLin_run (hT : TabOk P T) (h : Sim W0 R0 ns D s E a w) {nid : Nat} (hD : ¬ D nid) {o : Oper} {t e : TypeId} {x y : Operand} (ho : o.op = .makeSlice t x y) {i ie : TI} (hi : T t = some i) (hk : i.kind = .slice e) (hie : T e = some ie) {k1 k2 : IntKind} {n : Int}
    (hx : a.eval x = .int k1 n) (hy : a.eval y = .int k2 n) (h0 : 0 ≤ n) (h1 : (ie.bytes : Int) * n ≤ 140737488355328) (h2 : n ≤ 9223372036854775807) (hz : ie.zero = [.slice none 0 0]) :
    OpOk P W0 R0 ns D nid s a w o { res := .lin nid n.toNat, nw := some (.box e (List.replicate n.toNat .nilS) false) } := by
  have hu := slice_und (hT t i hi) hk
  have hte := hT e ie hie
  obtain ⟨inf, z0, i1, i2, i3, i4, i5⟩ := hte.info
  have hr := run_make (P := P) w t e inf z0 hu i1 i4 k1 k2 n n h0 (Int.le_refl _) (by rw [i3]; omega) h2
  have hs1 : ie.size = 1 := by have := hte.len; rw [hz] at this; exact this.symm
  rw [i2, hs1] at hr
  obtain ⟨m, rfl⟩ := Int.eq_ofNat_of_zero_le h0
  simp only [Int.toNat_natCast, Nat.mul_one] at hr ⊢
  have hzc : z0.cells = #[.slice none 0 0] := by rw [i5, hz]
  have hcs : (madeCells z0.cells m).toList = List.replicate m (.slice none 0 0) := by
    apply List.ext_getElem
    · simp [size_madeCells]
    · intro j h1 h2
      simp [madeCells, hzc, Nat.mod_one]
  obtain ⟨E', e1, e2⟩ := h.newLin hD e (cells := List.replicate m .nilS) (vs := (madeCells z0.cells m).toList) ⟨by simp [hcs], fun c hc => by rw [List.eq_of_mem_replicate hc]; rfl, fun j c v hc hv => by
    rw [List.eq_of_mem_replicate (List.mem_of_getElem? hc)]
    rw [hcs] at hv
    rw [List.eq_of_mem_replicate (List.mem_of_getElem? hv)]
    exact .nilS⟩
  simp only [List.length_replicate, Array.toArray_toList] at e1 e2
  refine ⟨E', _, e1, .inl ⟨_, ?_, e2⟩⟩
  simp only [execOp, ho, hx, hy, Sem.run_bind, hr, Result.andThen_ok]
  rfl
theorem rowsOf_ids {m : Nat → Option Blk} {z : Nat} : ∀ {k : Nat} {l : List (Nat × SV)} {rows : List (List Dat)} {is : List Nat}, rowsOf m z k l = some (rows, is) → ∀ i ∈ is, ∃ t z rows f, m i = some (.row t z rows f)
  | _, [], rows, is, h => by cases h; simp
  | k, (j, x) :: l, rows, is, h => by
    simp only [rowsOf] at h
    split at h
    · split at h
      · rename_i ds is1 rs is2 h1 h2
        cases h
        intro i hi
        rcases List.mem_append.1 hi with hi | hi
        · exact escL_ids h1 i hi
        · exact rowsOf_ids h2 i hi
      · cases h
    · cases h
theorem fill_rows {E : Env} {w : World} {m m0 : Nat → Option Blk} {z : Nat} (hm : ∀ i t z rows f, m0 i = some (.row t z rows f) → ∃ f', m i = some (.row t z rows f')) (hl : ∀ i b, m i = some b → Holds E w (E.home i) b) :
    ∀ {k : Nat} {l : List (Nat × SV)} {rows : List (List Dat)} {is : List Nat} (ps : List (Nat × Value)) (A : Array Value), rowsOf m0 z k l = some (rows, is) → (∀ i ∈ is, E.ro (E.home i).blk) → ps.length = l.length →
      (∀ (j : Nat) p q, l[j]? = some p → ps[j]? = some q → p.1 = q.1 ∧ Rep E w p.2 q.2) → A.size = (k + rows.length) * z →
      ∃ B, Instr.fill (fun i => some (i * z, z)) A ps = some B ∧ B.size = A.size ∧ (∀ q, q < k * z → B[q]? = A[q]?) ∧ (∀ r ∈ rows, r.length = z) ∧ (∀ r ∈ rows, ∀ c ∈ r, c.one = true) ∧
        ∀ (i j : Nat) r c v, rows[i]? = some r → r[j]? = some c → B[(k + i) * z + j]? = some v → RepD E.ro w c v
  | k, [], rows, is, ps, A, h, _, hps, _, _ => by
    cases h
    cases ps with
    | nil => exact ⟨A, rfl, rfl, fun _ _ => rfl, by simp, by simp, by simp⟩
    | cons => simp at hps
  | k, (j, x) :: l, rows, is, ps, A, h, hro, hps, hrep, hA => by
    simp only [rowsOf] at h
    split at h
    · rename_i hc
      obtain ⟨rfl, hf, hlen⟩ := hc
      split at h
      · rename_i ds is1 rs is2 h1 h2
        cases h
        cases ps with
        | nil => simp at hps
        | cons q ps =>
          obtain ⟨j', v⟩ := q
          obtain ⟨hj, hx⟩ := hrep 0 _ _ rfl rfl
          simp only at hj hx
          subst hj
          have hX := hx.reps hf
          have hvs : v.cells.size = z := by have := hX.1; simp at this; omega
          have hds := escL_rep hm hl h1 fun i hi => hro i (List.mem_append_left _ hi)
          obtain ⟨f1, f2⟩ := fold_set (j * z) v.cells.toList 0 A
          have e : (v.cells.zipIdx.foldl (fun cs (p : Value × Nat) => cs.setIfInBounds (j * z + p.2) p.1) A) = (v.cells.toList.zipIdx 0).foldl (fun cs p => cs.setIfInBounds (j * z + p.2) p.1) A := by
            rw [← Array.foldl_toList, Array.toList_zipIdx]
          have hsz : A.size = (j + 1 + rs.length) * z := by rw [hA]; simp only [List.length_cons]; congr 1; omega
          have hfit : j * z + z ≤ A.size := by
            rw [hsz]
            calc j * z + z = (j + 1) * z := by rw [Nat.add_mul, Nat.one_mul]
              _ ≤ _ := Nat.mul_le_mul_right _ (by omega)
          obtain ⟨B, b1, b2, b3, b4, b5, b6⟩ := fill_rows hm hl (k := j + 1) ps _ h2 (fun i hi => hro i (List.mem_append_right _ hi)) (by simpa using hps) (fun i p q hp hq => hrep (i + 1) p q (by simpa using hp) (by simpa using hq)) (f1.trans hsz)
          refine ⟨B, ?_, b2.trans f1, fun q hq => ?_, fun r hr => ?_, fun r hr => ?_, fun i jj r c u hr hc hu => ?_⟩
          · simp only [Instr.fill]
            rw [if_neg (by simp [hvs]; omega)]
            rw [← b1]
            exact congrArg (fun y => Instr.fill (fun i => some (i * z, z)) y ps) e
          · rw [b3 q (by rw [Nat.add_mul, Nat.one_mul]; omega), f2 q, if_neg (by omega)]
          · rcases List.mem_cons.1 hr with rfl | hr
            · rw [hds.1, hlen]
            · exact b4 r hr
          · rcases List.mem_cons.1 hr with rfl | hr
            · intro c hc
              obtain ⟨n, hn, rfl⟩ := List.getElem_of_mem hc
              have hn1 : n < x.cells.length := by have := hds.1; omega
              have hn2 : n < v.cells.toList.length := by have := hX.1; omega
              exact (hds.2 n _ _ _ (List.getElem?_eq_getElem hn1) (List.getElem?_eq_getElem hn) (hX.2.2 n _ _ (List.getElem?_eq_getElem hn1) (List.getElem?_eq_getElem hn2))).2 (hX.2.1 _ (List.getElem_mem hn1))
            · exact b5 r hr
          · match i with
            | 0 =>
              simp only [List.getElem?_cons_zero, Option.some.injEq] at hr
              subst hr
              have hjj : jj < z := by have := (List.getElem?_eq_some_iff.1 hc).1; have := hds.1; omega
              rw [Nat.add_zero, b3 _ (by rw [Nat.add_mul, Nat.one_mul]; omega), f2, if_pos (by simp; omega)] at hu
              have hn1 : jj < x.cells.length := by omega
              exact (hds.2 jj _ c u (List.getElem?_eq_getElem hn1) hc (hX.2.2 jj _ u (List.getElem?_eq_getElem hn1) (by simpa using hu))).1
            | i + 1 =>
              simp only [List.getElem?_cons_succ] at hr
              exact b6 i jj r c u hr hc (by rw [show j + 1 + i = j + (i + 1) by omega]; exact hu)
      · cases h
    · cases h
theorem buildSlice_run (hT : TabOk P T) (h : Sim W0 R0 ns D s E a w) {nid : Nat} (hD : ¬ D nid) {o : Oper} {t e : TypeId} {len : Nat} {ps : Array (Nat × Operand)} (ho : o.op = .buildSlice t len ps) {i ie : TI} (hi : T t = some i) (hk : i.kind = .slice e) (hie : T e = some ie)
    {l : List (Nat × SV)} {ev : Operand → Option SV} (hE : ∀ x v, ev x = some v → Rep E w v (a.eval x)) (hev : evParts ev ps.toList = some l) {rows : List (List Dat)} {is : List Nat} (hr : rowsOf s.mem ie.size 0 l = some (rows, is)) (h1 : rows.length = len) (h2 : len * ie.size ≤ 16777216) (h3 : len ≤ maxLen) :
    OpOk P W0 R0 ns D nid s a w o { res := .own nid len ie.size, frz := is, nw := some (.row e ie.size rows false) } := by
  have hu := slice_und (hT t i hi) hk
  have hte := hT e ie hie
  obtain ⟨inf, z0, i1, i2, i3, i4, i5⟩ := hte.info
  obtain ⟨E1, e1, e2, e3, e4, e5⟩ := h.freezes is (rowsOf_ids hr)
  obtain ⟨p1, p2⟩ := evParts_rep (w := w) (E := E) (ev := ev) (ρ := a.eval) hE hev
  subst h1
  obtain ⟨B, b1, b2, b3, b4, b5, b6⟩ := fill_rows (m0 := s.mem) (m := frzM s.mem is) (fun i t z rows f hh => frzM_row hh) (fun i b hb => e2.mem i b hb) (ps.toList.map fun (i, x) => (i, a.eval x)) ((Array.range (rows.length * ie.size)).map ((if rows.length * ie.size = 0 then #[] else z0.cells)[· % (if rows.length * ie.size = 0 then #[] else z0.cells).size]!)) hr e3 (by simpa using p1) (fun j p q hp hq => ⟨(p2 j p q hp hq).1, (p2 j p q hp hq).2.keep e1 fun _ _ => rfl⟩) (by simp)
  obtain ⟨E', f1, f2⟩ := e2.newRow (nid := nid) hD e ie.size (rows := rows) (vs := B.toList) (by simp [b2]) h3 b4 b5 fun i j r c v hr hc hv => b6 i j r c v hr hc (by rw [Nat.zero_add]; simpa using hv)
  rw [Array.toArray_toList] at f1 f2
  have hsz : (Go.sizeOf e).run P w = .ok ie.size w := hte.sizeOf w
  have hz : (zeroValue e).run P w = .ok z0 w := by simp [zeroValue, typeInfo, i1, i4]
  have hrun : (Instr.buildSlice t rows.length (ps.map fun (i, x) => (i, a.eval x))).run P w = .ok (.slice (some ⟨w.heap.size, 0, none⟩) rows.length rows.length) (w.alloc (.cells B e)) := by
    unfold Instr.buildSlice
    simp only [Sem.run_bind, run_underlying hu, Result.andThen_ok, hsz]
    rw [if_neg (by omega)]
    by_cases hn : rows.length * ie.size = 0
    · simp only [hn, if_true] at b1
      simp only [Array.range_zero', Array.map_empty] at b1
      simp [hn, newRow, Array.range_zero', b1]
    · simp only [hn, if_false] at b1
      simp [hn, hz, b1, newRow]
  refine ⟨E', _, f1, .inl ⟨_, ?_, f2⟩⟩
  simp only [execOp, ho, Sem.run_bind, hrun, Result.andThen_ok]
  rfl
theorem aop_runE (hT : TabOk P T) (h : Sim W0 R0 ns D s E a w) {nid : Nat} (hD : ¬ D nid) {ev : Operand → Option SV} (hev : ∀ x v, ev x = some v → Rep E w v (a.eval x)) {o : Oper} {out : Out} (hs : aop T s.mem nid ev o.op = some out) : OpOk P W0 R0 ns D nid s a w o out := by
  have pure' : ∀ {r : SV}, aopR T s.mem ev o.op = some r → OpOk P W0 R0 ns D nid s a w o { res := r } := fun {r} hr => by
    obtain ⟨v, h1, h2⟩ := aopR_run hT hev h.mem hr
    exact ⟨E, w, h.weak fun i hi => .inr hi, .inl ⟨v, h1, h2⟩⟩
  unfold aop at hs
  split at hs
  · rename_i e x ho
    split at hs
    · rename_i v hx
      split at hs
      · rename_i hf
        cases hs
        obtain ⟨E', e1, e2⟩ := h.newBox hD e ((hev x v hx).reps hf)
        rw [Array.toArray_toList] at e1 e2
        exact ⟨E', _, e1, .inl ⟨_, by simp only [execOp, ho, Instr.box, newVar, newRow, Sem.run_bind, run_newObj, Result.andThen_ok, Sem.run_pure]; rfl, e2⟩⟩
      · cases hs
    · cases hs
  · rename_i e ho
    split at hs
    · rename_i i hi
      cases hs
      have hk := hT e i hi
      obtain ⟨inf, z0, i1, i2, i3, i4, i5⟩ := hk.info
      have hz : Reps E w (i.zero.map cSV) z0.cells.toList := by
        rw [i5]
        refine ⟨by simp, fun c hc => ?_, fun j c v hc hv => ?_⟩
        · obtain ⟨u, hu, rfl⟩ := List.mem_map.1 hc
          exact (cSV_rep (E := E) (w := w) (hk.one u hu)).2
        · simp only [List.getElem?_map, Option.map_eq_some_iff] at hc
          obtain ⟨u, hu, rfl⟩ := hc
          have e : u = v := by
            have : i.zero[j]? = some v := by simpa using hv
            rw [hu] at this
            cases this
            rfl
          subst e
          exact (cSV_rep (hk.one u (List.mem_of_getElem? hu))).1
      obtain ⟨E', e1, e2⟩ := h.newBox hD e hz
      rw [Array.toArray_toList] at e1 e2
      refine ⟨E', _, e1, .inl ⟨_, ?_, e2⟩⟩
      have hz : (zeroValue e).run P w = .ok z0 w := by simp [zeroValue, typeInfo, i1, i4]
      simp only [execOp, ho, Instr.alloc, newVar, newRow, Sem.run_bind, hz, run_newObj, Result.andThen_ok, Sem.run_pure]
      rfl
    · cases hs
  · rename_i t ps ho
    split at hs
    · rename_i i l hi hl
      split at hs
      · rename_i hkn
        rw [Option.map_eq_some_iff] at hs
        obtain ⟨c, hc, rfl⟩ := hs
        obtain ⟨p1, p2⟩ := evParts_rep (w := w) (E := E) hev hl
        obtain ⟨z, hz, hr⟩ := build_run (w := w) (E := E) hT hi hkn (ps := ps.map fun (i, x) => (i, a.eval x)) (by simpa using p1) (fun j p q hp hq => p2 j p q hp (by simpa using hq)) hc
        exact ⟨E, w, h.weak fun i hi => .inr hi, .inl ⟨z, by simp only [execOp, ho, Sem.run_bind, hz, Result.andThen_ok]; rfl, hr⟩⟩
      · cases hs
    · cases hs
  · rename_i t len ps ho
    split at hs
    · rename_i i hi
      split at hs
      · rename_i e hk
        split at hs
        · rename_i ie l hie hl
          split at hs
          · rename_i rows is hr
            split at hs
            · rename_i hc
              cases hs
              exact buildSlice_run hT h hD ho hi hk hie hev hl hr hc.1 hc.2.1 hc.2.2
            · cases hs
          · cases hs
        · cases hs
      · cases hs
    · cases hs
  · rename_i t l c ho
    split at hs
    · rename_i i hi
      split at hs
      · rename_i e hk
        split at hs
        · rename_i ie k1 n k2 n' hie h1 h2
          split at hs
          · rename_i hc
            obtain ⟨rfl, c1, c2, c3⟩ := hc
            split at hs
            · rename_i hz
              cases hs
              exact makeLin_run hT h hD ho hi hk hie (rep_int (hev _ _ (intOp_eq h1))) (rep_int (hev _ _ (intOp_eq h2))) c1 c2 c3 (isNilL_eq hz)
            · cases hs
              exact make_run hT h hD ho hi hk hie (rep_int (hev _ _ (intOp_eq h1))) (rep_int (hev _ _ (intOp_eq h2))) c1 c2 c3
          · cases hs
        · cases hs
      · cases hs
    · cases hs
  · rename_i t x y ho
    split at hs
    · rename_i i id r j v hi hx hy
      exact store_run hT h ho hi (hev x _ hx) (hev y _ hy) hs
    · cases hs
  · rename_i c ho
    split at hs
    · rename_i sx x t t' hc ha ht
      split at hs
      · rename_i i hi
        split at hs
        · rename_i e hk
          split at hs
          · rename_i ie sv xv hie h1 h2
            split at hs
            · rename_i xr hxr
              split at hs
              · rename_i hc2
                obtain ⟨rfl, hpos⟩ := hc2
                have hcc : c = { callee := .builtin .append, args := #[sx, x], argTypes := #[t', t'] } := by
                  cases c with
                  | mk callee args argTypes =>
                    simp only at hc ha ht
                    subst hc
                    congr 1
                    · rw [← Array.toArray_toList (xs := args), ha]
                    · rw [← Array.toArray_toList (xs := argTypes), ht]
                rw [hcc] at ho
                exact append_run hT h hD ho hi hk hie hpos (hev _ _ h1) (hev _ _ h2) hxr hs
              · cases hs
            · cases hs
          · cases hs
        · cases hs
      · cases hs
    · rw [Option.map_eq_some_iff] at hs
      obtain ⟨r, hr, rfl⟩ := hs
      rw [← ho] at hr
      exact pure' hr
  · rw [Option.map_eq_some_iff] at hs
    obtain ⟨r, hr, rfl⟩ := hs
    exact pure' hr
theorem aop_run (hT : TabOk P T) (h : Sim W0 R0 ns D s E a w) {nid : Nat} (hD : ¬ D nid) {o : Oper} {out : Out} (hs : aop T s.mem nid (opd ns s) o.op = some out) : OpOk P W0 R0 ns D nid s a w o out := aop_runE hT h hD (fun x v hx => h.opd hx) hs
end Go.Proofs.Ytdkneonokbakjaa.Eng

namespace Go.Proofs.Ytdkneonokbakjaa.Eng
open Go.RowKit
variable {P : Program} {T : Tab} {W0 : Fix} {R0 : Nat → Prop} {ns : Nat} {D : Nat → Prop} {s : St} {E : Env} {a : Act} {w : World}
def Callable (P : Program) (f : FuncId) : Prop := ∀ (args : Array Value) (w : World), (callFunc f args).run P w = .ok (.enter f args) w
theorem callable_of {P : Program} {f : FuncId} {fn : Func} (h : P.funcs[f]? = some fn) (hn : (fn.name == "runtime.NumGoroutine") = false) (hb : fn.body.isNone = false) : Callable P f := fun args w => by
  unfold callFunc
  simp only [Sem.run_bind, run_program, Result.andThen_ok, h, hn, hb, Bool.false_eq_true, if_false]
  rfl
structure ACall (P : Program) (f : FuncId) (args : List Dat) (r : Dat) : Prop where
  callable : Callable P f
  calls : ∀ (ro : Nat → Prop) (w : World) (vs : Array Value), (∀ b, ro b → b < w.heap.size) → vs.size = args.length → (∀ (i : Nat) d v, args[i]? = some d → vs[i]? = some v → RepD ro w d v) →
    Calls P f vs w fun e w' => ∃ v, e = .returned v ∧ Below w.heap.size w w' ∧ RepD (fun b => ro b ∨ (w.heap.size ≤ b ∧ b < w'.heap.size)) w' r v
def escAll (m : Nat → Option Blk) : List SV → Option (List Dat × List Nat)
  | [] => some ([], [])
  | x :: l => match esc m x, escAll m l with
    | some (d, i), some (ds, is) => some (d :: ds, i ++ is)
    | _, _ => none
theorem escAll_ids {m : Nat → Option Blk} : ∀ {l : List SV} {ds : List Dat} {is : List Nat}, escAll m l = some (ds, is) → ∀ i ∈ is, ∃ t z rows f, m i = some (.row t z rows f)
  | [], ds, is, h => by cases h; simp
  | x :: l, ds, is, h => by
    simp only [escAll] at h
    split at h
    · rename_i h1 h2
      cases h
      intro i hi
      rcases List.mem_append.1 hi with hi | hi
      · exact esc_ids h1 i hi
      · exact escAll_ids h2 i hi
    · cases h
theorem escAll_rep {E : Env} {w : World} {m m0 : Nat → Option Blk} (hm : ∀ i t z rows f, m0 i = some (.row t z rows f) → ∃ f', m i = some (.row t z rows f'))
    (hl : ∀ i b, m i = some b → Holds E w (E.home i) b) : ∀ {xs : List SV} {ds : List Dat} {is : List Nat}, escAll m0 xs = some (ds, is) → (∀ i ∈ is, E.ro (E.home i).blk) →
    ds.length = xs.length ∧ ∀ (j : Nat) x d v, xs[j]? = some x → ds[j]? = some d → Rep E w x v → RepD E.ro w d v
  | [], ds, is, h, _ => by cases h; exact ⟨rfl, by simp⟩
  | x :: l, ds, is, h, hr => by
    simp only [escAll] at h
    split at h
    · rename_i d i ds' is' h1 h2
      cases h
      obtain ⟨k1, k2⟩ := escAll_rep hm hl h2 fun i hi => hr i (List.mem_append_right _ hi)
      refine ⟨by simp [k1], fun j y e v hy he hv => ?_⟩
      match j with
      | 0 =>
        simp only [List.getElem?_cons_zero, Option.some.injEq] at hy he
        subst hy; subst he
        exact esc_rep h1 hm hl (fun i hi => hr i (List.mem_append_left _ hi)) hv
      | j + 1 =>
        simp only [List.getElem?_cons_succ] at hy he
        exact k2 j y e v hy he hv
    · cases h
def fnOf : Op → Option (FuncId × List Operand)
  | .call c => match c.callee with
    | .value (.func f) => some (f, c.args.toList)
    | _ => none
  | _ => none
structure MS (W0 : Fix) (R0 : Nat → Prop) (D : Nat → Prop) (m : Nat → Option Blk) (E : Env) (w : World) : Prop where
  below : Kept W0.U W0.w w
  ro0 : ∀ b, R0 b → E.ro b
  ro1 : ∀ b, E.ro b → R0 b ∨ ¬ W0.U b
  rlt : ∀ b, E.ro b → b < w.heap.size
  dom : ∀ i, E.dom i → D i
  live : ∀ i b, m i = some b → E.dom i
  mem : ∀ i b, m i = some b → Holds E w (E.home i) b
  base : ∀ i b, m i = some b → ¬ W0.U (E.home i).blk
  frz : ∀ i b, m i = some b → (b.frz = true ↔ E.ro (E.home i).blk)
  inj : ∀ i j b c, m i = some b → m j = some c → i ≠ j → (E.home i).blk ≠ (E.home j).blk
theorem Sim.ms (h : Sim W0 R0 ns D s E a w) : MS W0 R0 D s.mem E w := ⟨h.below, h.ro0, h.ro1, h.rlt, h.dom, h.live, h.mem, h.base, h.frz, h.inj⟩
structure RCall (P : Program) (f : FuncId) (svs : List SV) (d : Dat) (m : Nat → Option Blk) : Prop where
  callable : Callable P f
  calls : ∀ (W0 : Fix) (R0 D : Nat → Prop) (N : Nat) (E : Env) (w : World) (vs : Array Value), (∀ i, D i → i < N) → MS W0 R0 D m E w → vs.size = svs.length → (∀ (i : Nat) x v, svs[i]? = some x → vs[i]? = some v → Rep E w x v) →
    Calls P f vs w fun e w' => ∃ v E', e = .returned v ∧ MS W0 R0 D m E' w' ∧ E.le E' ∧ (∀ b, E.ro b → w'.heap[b]? = w.heap[b]?) ∧ Rep E' w' (.d d) v
theorem RCall.more {f : FuncId} {svs : List SV} {d : Dat} {m m' : Nat → Option Blk} (h : RCall P f svs d m) (hm : ∀ i b, m i = some b → m' i = some b) : RCall P f svs d m' :=
  ⟨h.callable, fun W0 R0 D N E w vs hD M h1 h2 => by
    let W1 : Fix := { w := w, U := fun b => b < w.heap.size ∧ ∀ i c, m i = some c → (E.home i).blk ≠ b, lt := fun _ h => h.1, g := fun _ => undef }
    have hU : ∀ b, W0.U b → W1.U b := fun b hb => ⟨Nat.lt_of_lt_of_le (W0.lt b hb) M.below.size, fun i c hi e => M.base i c (hm i c hi) (e ▸ hb)⟩
    have hUn : ∀ i b, m' i = some b → m i = none → W1.U (E.home i).blk := fun i b hi hn => ⟨(M.mem i b hi).lt, fun j c hj => M.inj j i c b (hm j c hj) hi fun e => by rw [e, hn] at hj; cases hj⟩
    have M1 : MS W1 E.ro D m E w := ⟨Kept.refl _ _, fun _ h => h, fun _ h => .inl h, M.rlt, M.dom, fun i b hi => M.live i b (hm i b hi), fun i b hi => M.mem i b (hm i b hi), fun i b hi h => h.2 i b hi rfl, fun i b hi => M.frz i b (hm i b hi), fun i j b c hi hj hn => M.inj i j b c (hm i b hi) (hm j c hj) hn⟩
    refine (h.calls W1 E.ro D N E w vs hD M1 h1 h2).mono ?_
    rintro e w' ⟨v, E', rfl, M2, hE, hw, hv⟩
    have hro : ∀ b, E'.ro b → E.ro b ∨ ¬ W1.U b := M2.ro1
    refine ⟨v, E', rfl, ⟨M.below.trans (M2.below.mono hU), fun b hb => hE.ro b (M.ro0 b hb), fun b hb => ?_, M2.rlt, M2.dom, fun i b hi => hE.dom i (M.live i b hi), fun i b hi => ?_, fun i b hi => ?_, fun i b hi => ?_, fun i j b c hi hj hn => ?_⟩, hE, hw, hv⟩
    · rcases hro b hb with h3 | h3
      · exact M.ro1 b h3
      · exact .inr fun h4 => h3 (hU b h4)
    · cases hn : m i with
      | some c =>
        have := hm i c hn
        rw [hi] at this
        cases this
        exact M2.mem i b hn
      | none =>
        rw [hE.home i (M.live i b hi)]
        exact (M.mem i b hi).keep hE hw (M2.below.block _ (hUn i b hi hn))
    · rw [hE.home i (M.live i b hi)]
      exact M.base i b hi
    · cases hn : m i with
      | some c =>
        have := hm i c hn
        rw [hi] at this
        cases this
        exact M2.frz i b hn
      | none =>
        rw [hE.home i (M.live i b hi)]
        refine (M.frz i b hi).trans ⟨fun h => hE.ro _ h, fun h => ?_⟩
        rcases hro _ h with h3 | h3
        · exact h3
        · exact absurd (hUn i b hi hn) h3
    · rw [hE.home i (M.live i b hi), hE.home j (M.live j c hj)]
      exact M.inj i j b c hi hj hn⟩
theorem Sim.back {W0 : Fix} {R0 : Nat → Prop} {D D' : Nat → Prop} {ns : Nat} {s : St} {E E' : Env} {a : Act} {w w' : World} {m' : Nat → Option Blk} (h : Sim W0 R0 ns D s E a w) (M : MS W0 R0 D' m' E' w') (hE : E.le E') (hw : ∀ b, E.ro b → w'.heap[b]? = w.heap[b]?) : Sim W0 R0 ns D' { s with mem := m' } E' a w' :=
  ⟨M.below, M.ro0, M.ro1, M.rlt, h.size, h.dfr, fun t => (h.slot t).keep hE hw, M.dom, M.live, M.mem, M.base, M.frz, M.inj,
    fun i hi => ⟨hE.dom i (h.le0 i hi).1, (hE.home i (h.le0 i hi).1).trans (h.le0 i hi).2⟩, fun b hb => ⟨hE.ro b (h.re0 b hb).1, (hw b (h.re0 b hb).1).trans (h.re0 b hb).2⟩⟩
def StepF (P : Program) (ev : Operand → Option SV) (m : Nat → Option Blk) (f : FuncId) (args : List Operand) (out : Out) : Prop :=
  ∃ svs ds is r, evList ev args = some svs ∧ escAll m svs = some (ds, is) ∧ ACall P f ds r ∧ out = { res := .d r, frz := is }
def calleeS (ns : Nat) (s : St) : Op → Option (FuncId × List SV)
  | .call c => match c.callee with
    | .value (.func f) => match evList (opd ns s) c.args.toList with
      | some l => some (f, l)
      | none => none
    | .value (.tmp t) => match opd ns s (.tmp t), evList (opd ns s) c.args.toList with
      | some (.fn f xs ys), some l => some (f, xs ++ l ++ ys)
      | _, _ => none
    | _ => none
  | _ => none
theorem calleeS_run (h : Sim W0 R0 ns D s E a w) {o : Oper} {f : FuncId} {svs : List SV} (hc : calleeS ns s o.op = some (f, svs)) (hf : Callable P f) :
    ∃ vs : Array Value, (execOp a.eval o).run P w = .ok (.enter f vs) w ∧ vs.size = svs.length ∧ ∀ (i : Nat) x v, svs[i]? = some x → vs[i]? = some v → Rep E w x v := by
  unfold calleeS at hc
  split at hc
  · rename_i c ho
    split at hc
    · rename_i f' hcal
      split at hc
      · rename_i l h1
        cases hc
        obtain ⟨p1, p2⟩ := evList_rep (w := w) (E := E) (ev := opd ns s) (ρ := a.eval) (fun x v hx => h.opd hx) h1
        refine ⟨c.args.map a.eval, ?_, by simpa using p1, fun i x v hx hv => p2 i x v hx (by simpa using hv)⟩
        have hce := hf (c.args.map a.eval) w
        simp only [execOp, ho, resolve, hcal, Act.eval, Deferred.ofValue, invoke, Sem.run_bind, Sem.run_pure, Result.andThen_ok, Array.append_empty, Array.empty_append]
        exact hce
      · cases hc
    · rename_i t hcal
      split at hc
      · rename_i f' xs ys l h0 h1
        cases hc
        obtain ⟨p1, p2⟩ := evList_rep (w := w) (E := E) (ev := opd ns s) (ρ := a.eval) (fun x v hx => h.opd hx) h1
        have hr := h.opd h0
        obtain ⟨u, hu⟩ : ∃ u, a.eval (.tmp t) = u := ⟨_, rfl⟩
        rw [hu] at hr
        cases hr with
        | fn _ _ _ us vs u1 u2 u3 u4 =>
          have e1 : (c.args.map a.eval).toList.length = l.length := by simpa using p1
          refine ⟨us ++ c.args.map a.eval ++ vs, ?_, by simp at e1 ⊢; omega, fun i x v hx hv => ?_⟩
          · have hce := hf (us ++ c.args.map a.eval ++ vs) w
            simp only [execOp, ho, resolve, hcal, hu, Deferred.ofValue, invoke, Sem.run_bind, Sem.run_pure, Result.andThen_ok]
            exact hce
          · rcases Nat.lt_or_ge i (xs ++ l).length with g | g
            · rw [List.getElem?_append_left g] at hx
              rw [Array.getElem?_append_left (by simp at e1 g ⊢; omega)] at hv
              rcases Nat.lt_or_ge i xs.length with g2 | g2
              · rw [List.getElem?_append_left g2] at hx
                rw [Array.getElem?_append_left (by omega)] at hv
                exact u3 i x v hx hv
              · rw [List.getElem?_append_right g2] at hx
                rw [Array.getElem?_append_right (by omega), u1] at hv
                exact p2 _ x v hx (by simpa using hv)
            · rw [List.getElem?_append_right g] at hx
              rw [Array.getElem?_append_right (by simp at e1 g ⊢; omega)] at hv
              refine u4 (i - (xs ++ l).length) x v hx ?_
              rw [← hv]
              congr 1
              simp at e1 ⊢
              omega
      · cases hc
    · cases hc
  · cases hc
def StepR (P : Program) (ns : Nat) (s : St) (o : Op) (out : Out) : Prop :=
  ∃ f svs r m0, calleeS ns s o = some (f, svs) ∧ RCall P f svs r m0 ∧ (∀ i b, m0 i = some b → i ∈ out.rds ∧ s.mem i = some b) ∧ out = { res := .d r, rds := out.rds }
def Step (P : Program) (T : Tab) (ns nid : Nat) (s : St) (o : Op) (out : Out) : Prop :=
  (match fnOf o with
  | some (f, args) => StepF P (opd ns s) s.mem f args out
  | none => aop T s.mem nid (opd ns s) o = some out) ∨ StepR P ns s o out
def putS (s : St) (nid : Nat) (d : Option Tmp) (out : Out) : St := { slots := setSlot s.slots d out.res, mem := memApp s.mem nid out }
theorem fnOf_eq {o : Op} {f : FuncId} {args : List Operand} (h : fnOf o = some (f, args)) : ∃ c, o = .call c ∧ c.callee = .value (.func f) ∧ c.args.toList = args := by
  unfold fnOf at h
  split at h
  · rename_i c
    split at h
    · rename_i hc; cases h; exact ⟨c, rfl, hc, rfl⟩
    · cases h
  · cases h
theorem step_wp (hT : TabOk P T) (h : Sim W0 R0 ns D s E a w) {nid : Nat} (hD : ¬ D nid) {N : Nat} (hN : ∀ i, D i → i < N) {o : Oper} (hd : ∀ t, o.dst = some t → t < ns) {out : Out} (hs : Step P T ns nid s o.op out) {K : Act → World → Prop} {Q : Exit → Act → World → Prop}
    (hK : ∀ E' a' w', Sim W0 R0 ns (fun k => k = nid ∨ D k) (putS s nid o.dst out) E' a' w' → K a' w') : o.wp P a w K Q := by
  rcases hs with hs | ⟨f, svs, r, m0, h1, h3, hm0, hout⟩
  rotate_left
  · obtain ⟨vs, hex, v1, v2⟩ := calleeS_run h h1 h3.callable
    unfold Oper.wp
    rw [hex, Oper.upon_enter]
    refine ((h3.more fun i b hi => (hm0 i b hi).2).calls W0 R0 D N E w vs hN h.ms v1 v2).mono ?_
    rintro e w' ⟨v, E', rfl, M, hE, hw, hv⟩
    have h5 := ((h.back M hE hw).put hd hv).weak (D' := fun k => k = nid ∨ D k) fun i hi => Or.inr hi
    refine hK E' _ w' ?_
    rw [hout]
    exact h5
  split at hs
  · rename_i f args hf
    obtain ⟨c, ho, hc, ha⟩ := fnOf_eq hf
    obtain ⟨svs, ds, is, r, h1, h2, h3, rfl⟩ := hs
    obtain ⟨E1, e1, e2, e3, e4, e5⟩ := h.freezes is (escAll_ids h2)
    obtain ⟨p1, p2⟩ := evList_rep (w := w) (E := E) (ev := opd ns s) (ρ := a.eval) (fun x v hx => h.opd hx) h1
    obtain ⟨q1, q2⟩ := escAll_rep (m0 := s.mem) (m := frzM s.mem is) (fun i t z rows f hh => frzM_row hh) (fun i b hb => e2.mem i b hb) h2 e3
    have hex : (execOp a.eval o).run P w = .ok (.enter f (c.args.map a.eval)) w := by
      have hcc := h3.callable (c.args.map a.eval) w
      simp only [execOp, ho, resolve, hc, Act.eval, Deferred.ofValue, invoke, Sem.run_bind, Sem.run_pure, Result.andThen_ok, Array.append_empty, Array.empty_append]
      exact hcc
    unfold Oper.wp
    rw [hex, Oper.upon_enter]
    refine (h3.calls E1.ro w (c.args.map a.eval) e2.rlt (by simp; have := congrArg List.length ha; simp at this; omega) fun i d v hd hv => ?_).mono ?_
    · have hi : i < svs.length := by have := (List.getElem?_eq_some_iff.1 hd).1; omega
      refine q2 i svs[i] d v (List.getElem?_eq_getElem hi) hd ((p2 i svs[i] v (List.getElem?_eq_getElem hi) ?_).keep e1 fun _ _ => rfl)
      rw [← ha]
      simpa using hv
    · rintro e w' ⟨v, rfl, hb, hr⟩
      let E2 : Env := { E1 with ro := fun b => E1.ro b ∨ (w.heap.size ≤ b ∧ b < w'.heap.size) }
      have hE : E1.le E2 := ⟨fun _ h => .inl h, fun _ h => h, fun _ _ => rfl⟩
      have h4 := e2.later (E' := E2) (D' := fun k => k = nid ∨ D k) (e2.kept hb) hE (fun b hb' => hb.block b (e2.rlt b hb')) (fun i b hi => hb.block _ (e2.mem i b hi).lt) (fun b hb' => by
        rcases hb' with h' | ⟨h1, h2⟩
        · exact .inl h'
        · exact .inr ⟨h.fresh h1, h2, fun i c hi e => by have := (e2.mem i c hi).lt; omega⟩) (fun i hi => .inr (e2.dom i hi))
      exact hK E2 _ w' (h4.put hd (.d _ _ hr))
  · obtain ⟨E', w', h1, h2⟩ := aop_run hT h hD hs
    unfold Oper.wp
    rcases h2 with ⟨v, hr, hv⟩ | ⟨hr, hu⟩
    · rw [hr]
      exact hK E' _ w' (h1.put hd hv)
    · rw [hr]
      have := h1.put hd (Rep.und (E := E') (w := w') undef)
      unfold putS at hK
      rw [hu] at hK
      exact hK E' _ w' this
def dstOk (ns : Nat) : Option Nat → Bool
  | none => true
  | some t => decide (t < ns)
theorem rep_no {E : Env} {w : World} : Rep E w (.tup []) undef := .tup [] #[] rfl (by simp)
def guardS (ops : Array Oper) (ns : Nat) (s : St) (o : Oper) : Option Bool :=
  if dstOk ns o.dst = true then match o.guard with
  | none => some true
  | some (j, want) => match (ops[j]?).bind (·.dst) with
    | some t => if t < ns then match s.slots t with
      | .d (.val (.bool b)) => some (b == want)
      | .tup [] => some false
      | _ => none
      else none
    | none => none
  else none
theorem guardS_dst {ops : Array Oper} {ns : Nat} {s : St} {o : Oper} {b : Bool} (h : guardS ops ns s o = some b) : ∀ t, o.dst = some t → t < ns := fun t ht => by
  unfold guardS at h
  split at h
  · rename_i hd; rw [ht] at hd; exact of_decide_eq_true hd
  · cases h
theorem guard_ok (h : Sim W0 R0 ns D s E a w) {ops : Array Oper} {o : Oper} {b : Bool} (hg : guardS ops ns s o = some b) : Region.wanted o (yielded ops a.tmps) = b := by
  unfold guardS at hg
  rw [if_pos (by by_cases hd : dstOk ns o.dst = true; exact hd; rw [if_neg hd] at hg; cases hg)] at hg
  unfold Region.wanted
  split at hg
  · rename_i hgd; rw [hgd]; cases hg; rfl
  · rename_i j want hgd
    rw [hgd]
    split at hg
    · rename_i t ht
      split at hg
      · rename_i hlt
        split at hg
        · rename_i b' hs
          cases hg
          have hr := h.slot t
          rw [if_pos hlt] at hr
          rw [hs] at hr
          have := rep_bool hr
          have ht' : a.tmps[t]? = some (.bool b') := by
            have hl : t < a.tmps.size := by rw [h.size]; exact hlt
            simp [hl] at this
            simp [hl, this]
          simp only [yielded, ht, Option.bind_some, ht']
          cases b' <;> cases want <;> rfl
        · rename_i hs
          cases hg
          have hr := h.slot t
          rw [if_pos hlt, hs] at hr
          obtain ⟨u, hu⟩ : ∃ u, a.tmps.getD t undef = u := ⟨_, rfl⟩
          rw [hu] at hr
          have ht' : a.tmps[t]? = some u := by
            have hl : t < a.tmps.size := by rw [h.size]; exact hlt
            simp [hl] at hu
            simp [hl, hu]
          simp only [yielded, ht, Option.bind_some, ht']
          cases hr
          rfl
        · cases hg
      · cases hg
    · cases hg
structure Foot where
  rd : List Nat
  wr : List Nat
def idsOf1 : SV → List Nat
  | .own id _ _ => [id]
  | .lin id _ => [id]
  | .ptr id _ _ => [id]
  | _ => []
def idsOf : SV → List Nat
  | .agg cs => cs.flatMap idsOf1
  | x => idsOf1 x
def slotsOf (o : Op) : List Nat := o.operands.toList.filterMap fun
  | .tmp t => some t
  | _ => none
def looks : Op → Bool
  | .load .. | .store .. | .buildSlice .. | .call _ => true
  | _ => false
def idsRead (s : St) (o : Op) : List Nat := if looks o then (slotsOf o).flatMap fun t => idsOf (s.slots t) else []
def guardSlot (ops : Array Oper) (o : Oper) : List Nat := match o.guard with
  | none => []
  | some (j, _) => ((ops[j]?).bind (·.dst)).toList
def idsWritten (nid : Nat) (out : Out) : List Nat := out.frz ++ (match out.wr with | none => [] | some (i, _) => [i]) ++ (match out.nw with | none => [] | some _ => [nid])
def footOf (ops : Array Oper) (nid : Nat) (s : St) (o : Oper) (out : Option Out) : Foot :=
  { rd := (guardSlot ops o).map (2 * ·) ++ (match out with | none => [] | some x => (slotsOf o.op).map (2 * ·) ++ ((idsRead s o.op).map (2 * · + 1) ++ x.rds.map (2 * · + 1))),
    wr := o.dst.toList.map (2 * ·) ++ (match out with | none => [] | some x => (idsWritten nid x).map (2 * · + 1)) }
def Exec (P : Program) (T : Tab) (ops : Array Oper) (ns : Nat) : Nat → List Oper → St → List Foot → (St → List Foot → Prop) → Prop
  | _, [], s, log, Q => Q s log
  | nid, o :: l, s, log, Q => match guardS ops ns s o with
    | some true => ∃ out, Step P T ns nid s o.op out ∧ Exec P T ops ns (nid + 1) l (putS s nid o.dst out) (log ++ [footOf ops nid s o (some out)]) Q
    | some false => Exec P T ops ns (nid + 1) l { s with slots := setSlot s.slots o.dst (.tup []) } (log ++ [footOf ops nid s o none]) Q
    | none => False
end Go.Proofs.Ytdkneonokbakjaa.Eng
