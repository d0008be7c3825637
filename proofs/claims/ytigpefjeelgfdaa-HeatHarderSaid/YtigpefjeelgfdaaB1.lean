/-
  A part of the texts that the claim builds on: see the last one.
-/
import Derived.WalkKit
import Derived.WalkSpells
import Derived.Lib.Hide
import Derived.Deep.Draws
import Derived.Deep.QuietTactic
import Derived.BigQuiet
import Derived.Test.YtigpefjeelgfdaaRows
import Derived.Outline
import Derived.LoopTactic
import Derived.Deep.RegionHeld3
import Derived.StillTailTactics
import Derived.BigRegion
import Derived.Deep.OwnRows
import Derived.StillTail
import Derived.Maps.AppendAt
set_option linter.unusedSimpArgs false
set_option linter.unusedVariables false
/-
  Words for memory: a slice in memory that reads as a list, the data of layer 1 as they lie in memory, boxes; and what becomes of them while memory grows. No program is named here.
-/
namespace Go.Proofs.Ytigpefjeelgfdaa
open Go.RowKit

/-- Old cells below block B read in w' as they did in w. -/
def Same (B : Nat) (w w' : World) : Prop := ∀ k, k < B → w'.heap[k]? = w.heap[k]?

theorem Same.cell {B : Nat} {w w' : World} (h : Same B w w') {b : Nat} (hb : b < B) (o : Nat) : w'.cell? ⟨b, o, none⟩ = w.cell? ⟨b, o, none⟩ :=
  World.cell?_of_block (w := w) (h b hb)

theorem Same.of_below {B : Nat} {w w' : World} (h : Below B w w') : Same B w w' := fun k hk => h.block k hk

/-- At the address A (none, where nothing is there) the elements of xs lie one behind the other, element x at block b, offset off + i * size, as R says. -/
def SLa {α : Type} (R : World → Nat → Nat → α → Prop) (size : Nat) (w : World) (B : Nat) (A : Option Addr) (xs : List α) : Prop :=
  0 < xs.length → ∃ b off, A = some ⟨b, off, none⟩ ∧ b < B ∧ ∀ i x, xs[i]? = some x → R w b (off + i * size) x
/-- A slice value that reads as the list xs. -/
def SL {α : Type} (R : World → Nat → Nat → α → Prop) (size : Nat) (w : World) (B : Nat) (v : Value) (xs : List α) : Prop :=
  ∃ (A : Option Addr) (c : Nat), v = .slice A xs.length c ∧ xs.length ≤ c ∧ c ≤ 9223372036854775807 ∧ SLa R size w B A xs

theorem SLa.keep {α : Type} {R R' : World → Nat → Nat → α → Prop} {size : Nat} {w w' : World} {B B' : Nat} {A : Option Addr} {xs : List α}
    (h : SLa R size w B A xs) (hB : B ≤ B') (hR : ∀ b off x, b < B → R w b off x → R' w' b off x) : SLa R' size w' B' A xs := by
  intro hn
  obtain ⟨b, off, hA, hb, hx⟩ := h hn
  exact ⟨b, off, hA, by omega, fun i x hi => hR _ _ _ hb (hx i x hi)⟩

theorem SL.keep {α : Type} {R R' : World → Nat → Nat → α → Prop} {size : Nat} {w w' : World} {B B' : Nat} {v : Value} {xs : List α}
    (h : SL R size w B v xs) (hB : B ≤ B') (hR : ∀ b off x, b < B → R w b off x → R' w' b off x) : SL R' size w' B' v xs := by
  obtain ⟨A, c, hv, h1, h2, h3⟩ := h
  exact ⟨A, c, hv, h1, h2, h3.keep hB hR⟩

theorem SL.nil {α : Type} (R : World → Nat → Nat → α → Prop) (size : Nat) (w : World) (B : Nat) : SL R size w B (.slice none 0 0) [] :=
  ⟨none, 0, rfl, by simp, by simp, by simp [SLa]⟩

/-- The element at i: a fresh name for it, and where it lies. -/
theorem SLa.at_ {α : Type} {R : World → Nat → Nat → α → Prop} {size : Nat} {w : World} {B : Nat} {A : Option Addr} {xs : List α} (h : SLa R size w B A xs) {i : Nat} (hi : i < xs.length) :
    ∃ b off x, A = some ⟨b, off, none⟩ ∧ b < B ∧ Hid (xs[i]? = some x) ∧ R w b (off + i * size) x := by
  obtain ⟨b, off, hA, hb, hx⟩ := h (by omega)
  exact ⟨b, off, xs[i], hA, hb, Lib.hid (List.getElem?_eq_getElem hi), hx i _ (List.getElem?_eq_getElem hi)⟩

/-- p holds of all elements ahead of k. -/
def Upto {α : Type} (p : α → Bool) (l : List α) (k : Nat) : Prop := (l.take k).all p = true
theorem take_some {α : Type} {l : List α} {k : Nat} {x : α} (h : l[k]? = some x) : l.take (k + 1) = l.take k ++ [x] := by
  obtain ⟨hk, rfl⟩ := List.getElem?_eq_some_iff.1 h
  rw [List.take_succ_eq_append_getElem hk]
theorem Upto.zero {α : Type} (p : α → Bool) (l : List α) : Upto p l 0 := by simp [Upto]
theorem Upto.succ {α : Type} {p : α → Bool} {l : List α} {k : Nat} {x : α} (h : Upto p l k) (hx : Hid (l[k]? = some x)) (hp : p x = true) : Upto p l (k + 1) := by
  unfold Upto at h ⊢
  rw [take_some hx.out, List.all_append, h]
  simp [hp]
theorem Upto.done {α : Type} {p : α → Bool} {l : List α} {k : Nat} (h : Upto p l k) (hk : l.length ≤ k) : l.all p = true := by
  unfold Upto at h
  rwa [List.take_of_length_le hk] at h
theorem Upto.fail {α : Type} {p : α → Bool} {l : List α} {k : Nat} {x : α} (hx : Hid (l[k]? = some x)) (hp : p x = false) : l.all p = false := by
  rw [List.all_eq_false]
  exact ⟨x, List.mem_of_getElem? hx.out, by simp [hp]⟩

/-- The same for a test of places. -/
def UptoN (p : Nat → Bool) (k : Nat) : Prop := ∀ i, i < k → p i = true
def allN (p : Nat → Bool) (n : Nat) : Bool := (List.range n).all p
theorem UptoN.zero (p : Nat → Bool) : UptoN p 0 := fun i h => absurd h (by omega)
theorem UptoN.succ {p : Nat → Bool} {k : Nat} (h : UptoN p k) (hp : p k = true) : UptoN p (k + 1) := fun i hi => by
  rcases Nat.lt_or_ge i k with h1 | h1
  · exact h i h1
  · obtain rfl : i = k := by omega
    exact hp
theorem UptoN.done {p : Nat → Bool} {n k : Nat} (h : UptoN p k) (hk : n ≤ k) : allN p n = true := by
  simp only [allN, List.all_eq_true, List.mem_range]
  exact fun i hi => h i (by omega)
theorem UptoN.fail {p : Nat → Bool} {n k : Nat} (hk : k < n) (hp : p k = false) : allN p n = false := by
  simp only [allN, List.all_eq_false, List.mem_range]
  exact ⟨k, hk, by simp [hp]⟩
theorem allN_iff {p : Nat → Bool} {n : Nat} : allN p n = true ↔ ∀ i, i < n → p i = true := by simp [allN]

/-- One integer in a cell. -/
def IntAt (k : IntKind) (w : World) (b off : Nat) (n : Int) : Prop := w.cell? ⟨b, off, none⟩ = some (.int k n)
theorem IntAt.keep {k : IntKind} {w w' : World} {B b off : Nat} {n : Int} (h : IntAt k w b off n) (hs : Same B w w') (hb : b < B) : IntAt k w' b off n := (hs.cell hb off).trans h

/-- A block that is known whole. -/
def Box (w : World) (g : Nat) (t : TypeId) (cs : Array Value) : Prop := w.heap[g]? = some (.cells cs t (0, 0))

theorem Box.cast {w : World} {g : Nat} {t : TypeId} {cs cs' : Array Value} (h : Box w g t cs) (e : cs = cs') : Box w g t cs' := e ▸ h
theorem Box.new' {w : World} {g : Nat} {t : TypeId} {cs : Array Value} (h : g = w.heap.size) : Box (w.alloc (.cells cs t)) g t cs := by subst h; exact heap_alloc_new w _
theorem Box.lt {w : World} {g : Nat} {t : TypeId} {cs : Array Value} (h : Box w g t cs) : g < w.heap.size := by
  unfold Box at h
  rcases Nat.lt_or_ge g w.heap.size with hlt | hge
  · exact hlt
  · rw [Array.getElem?_eq_none hge] at h; cases h
theorem Box.cell {w : World} {g : Nat} {t : TypeId} {cs : Array Value} (h : Box w g t cs) (i : Nat) : w.cell? ⟨g, i, none⟩ = cs[i]? := cell_of_row w g i cs t (0, 0) h
theorem Box.frozen {w : World} {g : Nat} {t : TypeId} {cs : Array Value} (h : Box w g t cs) (i : Nat) : w.frozen? ⟨g, i, none⟩ = false := by
  unfold Box at h
  simp [World.frozen?, h]
theorem Box.new (w : World) (t : TypeId) (cs : Array Value) : Box (w.alloc (.cells cs t)) w.heap.size t cs := heap_alloc_new w _
theorem Box.alloc {w : World} {g : Nat} {t : TypeId} {cs : Array Value} (h : Box w g t cs) (o : Obj) : Box (w.alloc o) g t cs := (Below.heap_alloc w o g h.lt).trans h
theorem Box.drewN {w : World} {g : Nat} {t : TypeId} {cs : Array Value} (h : Box w g t cs) (n : Nat) : Box (w.drewN n) g t cs := h
theorem Box.drew {w : World} {g : Nat} {t : TypeId} {cs : Array Value} (h : Box w g t cs) : Box w.drew g t cs := h
theorem Box.set_ {w : World} {g : Nat} {t : TypeId} {cs : Array Value} (h : Box w g t cs) (i : Nat) (u : Value) : Box (w.setCell ⟨g, i, none⟩ u) g t (cs.setIfInBounds i u) := by
  unfold Box at h ⊢
  simp [World.setCell, Array.getElem?_modify, h]
theorem Box.far {w : World} {g : Nat} {t : TypeId} {cs : Array Value} (h : Box w g t cs) {p : Addr} (hp : g ≠ p.block) (u : Value) : Box (w.setCell p u) g t cs := (Below.heap_setCell w p u g hp).trans h
theorem Box.below {w w' : World} {g : Nat} {t : TypeId} {cs : Array Value} (h : Box w g t cs) {B : Nat} (hb : Below B w w') (hg : g < B) : Box w' g t cs := (hb.block g hg).trans h
theorem Box.grown {w w' : World} {g : Nat} {t : TypeId} {cs : Array Value} (h : Box w g t cs) {row : Option Nat} (hb : w.grownBy w' row) (hg : some g ≠ row) : Box w' g t cs := (hb.block g h.lt hg).trans h

theorem Box.one {w : World} {g : Nat} {t : TypeId} {a : Value} (h : Box w g t #[a]) : w.cell? ⟨g, 0, none⟩ = some a ∧ w.frozen? ⟨g, 0, none⟩ = false := ⟨h.cell 0, h.frozen 0⟩
theorem Box.two {w : World} {g : Nat} {t : TypeId} {a b : Value} (h : Box w g t #[a, b]) :
    w.cell? ⟨g, 0, none⟩ = some a ∧ w.cell? ⟨g, 1, none⟩ = some b ∧ w.frozen? ⟨g, 0, none⟩ = false ∧ w.frozen? ⟨g, 1, none⟩ = false := ⟨h.cell 0, h.cell 1, h.frozen 0, h.frozen 1⟩
def setAt (i : Nat) (u : Value) : Obj → Obj
  | .cells c t fr => .cells (c.setIfInBounds i u) t fr
  | o => o
/-- What block g will hold, seen through what is still to be done to it. -/
def BoxF (w : World) (g : Nat) (f : Obj → Obj) (o : Obj) : Prop := (w.heap[g]?).map f = some o
section
variable {w w' : World} {g : Nat} {f : Obj → Obj} {o x : Obj}
theorem Box.of_f {t : TypeId} {cs : Array Value} (h : BoxF w g (fun x => x) (.cells cs t (0, 0))) : Box w g t cs := by
  unfold BoxF at h
  unfold Box
  simpa using h
theorem BoxF.done {t : TypeId} {cs : Array Value} (b : Box w g t cs) (e : f (.cells cs t (0, 0)) = o) : BoxF w g f o := by
  unfold Box at b
  simp [BoxF, b, e]
theorem BoxF.alloc (h : g < w.heap.size) (k : BoxF w g f o) : BoxF (w.alloc x) g f o := by
  unfold BoxF at k ⊢
  rw [Below.heap_alloc w x g h]; exact k
theorem BoxF.new (h : g = w.heap.size) (e : f x = o) : BoxF (w.alloc x) g f o := by
  subst h
  unfold BoxF
  rw [heap_alloc_new w x]
  simp [e]
theorem BoxF.far {p : Addr} {u : Value} (h : g ≠ p.block) (k : BoxF w g f o) : BoxF (w.setCell p u) g f o := by
  unfold BoxF at k ⊢
  rw [Below.heap_setCell w p u g h]; exact k
theorem BoxF.set {i : Nat} {u : Value} (k : BoxF w g (fun y => f (setAt i u y)) o) : BoxF (w.setCell ⟨g, i, none⟩ u) g f o := by
  unfold BoxF at k ⊢
  rw [← k]
  simp only [World.setCell, Array.getElem?_modify, if_true]
  rw [Option.map_map]
  congr 1
theorem BoxF.drew (k : BoxF w g f o) : BoxF w.drew g f o := k
theorem BoxF.drewN {n : Nat} (k : BoxF w g f o) : BoxF (w.drewN n) g f o := k
theorem BoxF.below {B : Nat} (hb : Below B w w') (h : g < B) (k : BoxF w g f o) : BoxF w' g f o := by
  unfold BoxF at k ⊢
  rw [hb.block g h]; exact k
end

/-- What was there reads in the later world as it did: two rules for the walk. -/
theorem below_reads {W w1 : World} {B : Nat} (h : Below B W w1) : (∀ b o, b < B → w1.cell? ⟨b, o, none⟩ = W.cell? ⟨b, o, none⟩) ∧ (∀ b o, b < B → w1.frozen? ⟨b, o, none⟩ = W.frozen? ⟨b, o, none⟩) :=
  ⟨fun b o hb => h.cell (p := ⟨b, o, none⟩) hb, fun b o hb => h.frozen (p := ⟨b, o, none⟩) hb⟩
theorem below_drewN {B : Nat} {a w : World} (h : Below B a w) (n : Nat) : Below B a (w.drewN n) := ⟨h.os, h.tape, h.output, h.size, h.block⟩

/-! ### A region that draws its order, reads, and calls what makes memory of its own: the class of the worlds that hold all that w held -/
structure LaterW (w : World) where
  world : World
  below : Below w.heap.size w world
instance laterNonempty (w : World) : Nonempty (LaterW w) := ⟨⟨w, Below.refl _ _⟩⟩
theorem wp_region_later {P : Program} {id : Nat} {Q : Exit → Act → World → Prop} {a : Act} {w : World} {l : List Oper} (hm : P.follows .mixedOrders = true) (hB : Region.lexB .any l.toArray = true)
    (h : wpQuiet P l.toArray (fun w' => ∃ x : LaterW w, w' = x.world) (fun a' => ∀ w', (∃ x : LaterW w, w' = x.world) → Q .normal a' w') l a) : (Code.region id l.toArray true).wp P Q a w :=
  wp_region_quiet (C := fun w' => ∃ x : LaterW w, w' = x.world) hm hB ⟨⟨w.drew, (Below.refl _ _).drew⟩, rfl⟩ (by simpa using h)
theorem LaterW.calls {P : Program} {f : FuncId} {args : Array Value} {w : World} {x : LaterW w} {v : Value}
    (h : Calls P f args x.world fun e w' => e = .returned v ∧ Below x.world.heap.size x.world w') : Calls P f args x.world fun e w'' => e = .returned v ∧ ∃ y : LaterW w, w'' = y.world :=
  h.mono fun _ w1 ⟨he, hb⟩ => ⟨he, ⟨w1, x.below.trans (hb.mono x.below.size)⟩, rfl⟩
theorem LaterW.callsB {P : Program} {f : FuncId} {args : Array Value} {w : World} {x : LaterW w} {v : Value}
    (h : ∀ W, Below w.heap.size w W → Calls P f args W fun e w' => e = .returned v ∧ Below W.heap.size W w') : Calls P f args x.world fun e w'' => e = .returned v ∧ ∃ y : LaterW w, w'' = y.world :=
  LaterW.calls (h x.world x.below)
theorem later_below {w W : World} (h : ∃ x : LaterW w, W = x.world) : Below w.heap.size w W := by
  obtain ⟨x, rfl⟩ := h
  exact x.below
/-- What was there when the region began reads as it did, in each of these worlds. -/
theorem later_reads (w : World) : (∀ (x : LaterW w) b o, b < w.heap.size → x.world.cell? ⟨b, o, none⟩ = w.cell? ⟨b, o, none⟩) :=
  fun x b o hb => x.below.cell (p := ⟨b, o, none⟩) hb

/-! ### The data of layer 1 -/
/-- A kink: from where, and the ends of its range. -/
structure Kink where
  frm : Int
  lo : Int
  hi : Int
abbrev Rg := Int × Int

def RgAt (w : World) (b off : Nat) (r : Rg) : Prop := w.cell? ⟨b, off, none⟩ = some (.int .i64 r.1) ∧ w.cell? ⟨b, off + 1, none⟩ = some (.int .i64 r.2)
def KinkAt (w : World) (b off : Nat) (k : Kink) : Prop :=
  w.cell? ⟨b, off, none⟩ = some (.int .i64 k.frm) ∧ w.cell? ⟨b, off + 1, none⟩ = some (.int .i64 k.lo) ∧ w.cell? ⟨b, off + 2, none⟩ = some (.int .i64 k.hi)

theorem RgAt.keep {w w' : World} {B b off : Nat} {r : Rg} (h : RgAt w b off r) (hs : Same B w w') (hb : b < B) : RgAt w' b off r :=
  ⟨(hs.cell hb _).trans h.1, (hs.cell hb _).trans h.2⟩
theorem KinkAt.keep {w w' : World} {B b off : Nat} {k : Kink} (h : KinkAt w b off k) (hs : Same B w w') (hb : b < B) : KinkAt w' b off k :=
  ⟨(hs.cell hb _).trans h.1, (hs.cell hb _).trans h.2.1, (hs.cell hb _).trans h.2.2⟩

/-- Slices of these. -/
abbrev Rgs (w : World) (B : Nat) (v : Value) (l : List Rg) : Prop := SL RgAt 2 w B v l
abbrev Kinks (w : World) (B : Nat) (v : Value) (l : List Kink) : Prop := SL KinkAt 3 w B v l
abbrev Ints (k : IntKind) (w : World) (B : Nat) (v : Value) (l : List Int) : Prop := SL (IntAt k) 1 w B v l
abbrev RgsA (w : World) (B : Nat) (A : Option Addr) (l : List Rg) : Prop := SLa RgAt 2 w B A l
abbrev KinksA (w : World) (B : Nat) (A : Option Addr) (l : List Kink) : Prop := SLa KinkAt 3 w B A l
abbrev IntsA (k : IntKind) (w : World) (B : Nat) (A : Option Addr) (l : List Int) : Prop := SLa (IntAt k) 1 w B A l
theorem intsA {k : IntKind} {w : World} {B : Nat} {A : Option Addr} {l : List Int} (h : IntsA k w B A l) {i : Nat} (hi : i < l.length) :
    ∃ b off x, A = some ⟨b, off, none⟩ ∧ b < B ∧ Hid (l[i]? = some x) ∧ w.cell? ⟨b, off + i, none⟩ = some (.int k x) := by
  have := SLa.at_ h hi
  simpa [IntAt] using this
theorem rgsA {w : World} {B : Nat} {A : Option Addr} {l : List Rg} (h : RgsA w B A l) {i : Nat} (hi : i < l.length) :
    ∃ b off x y, A = some ⟨b, off, none⟩ ∧ b < B ∧ Hid (l[i]? = some (x, y)) ∧ w.cell? ⟨b, off + i * 2, none⟩ = some (.int .i64 x) ∧ w.cell? ⟨b, off + i * 2 + 1, none⟩ = some (.int .i64 y) := by
  obtain ⟨b, off, ⟨x, y⟩, h1, h2, h3, h4, h5⟩ := SLa.at_ h hi
  exact ⟨b, off, x, y, h1, h2, h3, h4, h5⟩
theorem kinksA {w : World} {B : Nat} {A : Option Addr} {l : List Kink} (h : KinksA w B A l) {i : Nat} (hi : i < l.length) :
    ∃ b off f x y, A = some ⟨b, off, none⟩ ∧ b < B ∧ Hid (l[i]? = some ⟨f, x, y⟩) ∧ w.cell? ⟨b, off + i * 3, none⟩ = some (.int .i64 f) ∧
      w.cell? ⟨b, off + i * 3 + 1, none⟩ = some (.int .i64 x) ∧ w.cell? ⟨b, off + i * 3 + 2, none⟩ = some (.int .i64 y) := by
  obtain ⟨b, off, ⟨f, x, y⟩, h1, h2, h3, h4, h5, h6⟩ := SLa.at_ h hi
  exact ⟨b, off, f, x, y, h1, h2, h3, h4, h5, h6⟩
/-- A way is a slice of kinks in one cell; a step a slice of ways; a works bars and steps. -/
def WayAt (B : Nat) (w : World) (b off : Nat) (l : List Kink) : Prop := ∃ v, w.cell? ⟨b, off, none⟩ = some v ∧ Kinks w B v l
abbrev WaysIn (w : World) (B : Nat) (v : Value) (l : List (List Kink)) : Prop := SL (WayAt B) 1 w B v l
def StepAt (B : Nat) (w : World) (b off : Nat) (l : List (List Kink)) : Prop := ∃ v, w.cell? ⟨b, off, none⟩ = some v ∧ WaysIn w B v l
abbrev Steps (w : World) (B : Nat) (v : Value) (l : List (List (List Kink))) : Prop := SL (StepAt B) 1 w B v l

theorem Rgs.keep {w w' : World} {B B' : Nat} {v : Value} {l : List Rg} (h : Rgs w B v l) (hs : Same B w w') (hB : B ≤ B') : Rgs w' B' v l :=
  SL.keep h hB fun _ _ _ hb hx => hx.keep hs hb
theorem Kinks.keep {w w' : World} {B B' : Nat} {v : Value} {l : List Kink} (h : Kinks w B v l) (hs : Same B w w') (hB : B ≤ B') : Kinks w' B' v l :=
  SL.keep h hB fun _ _ _ hb hx => hx.keep hs hb
theorem Ints.keep {k : IntKind} {w w' : World} {B B' : Nat} {v : Value} {l : List Int} (h : Ints k w B v l) (hs : Same B w w') (hB : B ≤ B') : Ints k w' B' v l :=
  SL.keep h hB fun _ _ _ hb hx => hx.keep hs hb
theorem WaysIn.keep {w w' : World} {B B' : Nat} {v : Value} {l : List (List Kink)} (h : WaysIn w B v l) (hs : Same B w w') (hB : B ≤ B') : WaysIn w' B' v l :=
  SL.keep h hB fun _ _ _ hb ⟨u, h1, h2⟩ => ⟨u, (hs.cell hb _).trans h1, h2.keep hs hB⟩
theorem Steps.keep {w w' : World} {B B' : Nat} {v : Value} {l : List (List (List Kink))} (h : Steps w B v l) (hs : Same B w w') (hB : B ≤ B') : Steps w' B' v l :=
  SL.keep h hB fun _ _ _ hb ⟨u, h1, h2⟩ => ⟨u, (hs.cell hb _).trans h1, h2.keep hs hB⟩

theorem kinks_on {w w' : World} {B n : Nat} {A : Option Addr} {l : List Kink} (h : KinksA w B A l) (hb : Below n w w') (hB : B ≤ n) : KinksA w' B A l :=
  SLa.keep h (Nat.le_refl _) fun _ _ _ hlt hx => KinkAt.keep hx (Same.of_below (hb.mono hB)) hlt
theorem rgs_on {w w' : World} {B n : Nat} {A : Option Addr} {l : List Rg} (h : RgsA w B A l) (hb : Below n w w') (hB : B ≤ n) : RgsA w' B A l :=
  SLa.keep h (Nat.le_refl _) fun _ _ _ hlt hx => RgAt.keep hx (Same.of_below (hb.mono hB)) hlt
theorem ints_on {k : IntKind} {w w' : World} {B n : Nat} {A : Option Addr} {l : List Int} (h : IntsA k w B A l) (hb : Below n w w') (hB : B ≤ n) : IntsA k w' B A l :=
  SLa.keep h (Nat.le_refl _) fun _ _ _ hlt hx => IntAt.keep hx (Same.of_below (hb.mono hB)) hlt
theorem getI {α : Type} {l : List α} {i : Nat} {x : α} (h : l[i]? = some x) : i < l.length := (List.getElem?_eq_some_iff.1 h).1
theorem ret_bool {a b : Bool} (h : a = b) : Ending.returned (.bool a) = .returned (.bool b) := by rw [h]
theorem ret_int {k : IntKind} {a b : Int} (h : a = b) : Ending.returned (.int k a) = .returned (.int k b) := by rw [h]

/-- A block of the call's own that holds just these integers. -/
theorem ints_box {w : World} {g : Nat} {t : TypeId} {k : IntKind} {l : List Int} {c : Nat} (h : Box w g t (l.map (Value.int k)).toArray) (hc : l.length ≤ c) (hm : c ≤ 9223372036854775807) :
    Ints k w w.heap.size (.slice (some ⟨g, 0, none⟩) l.length c) l :=
  ⟨_, c, rfl, hc, hm, fun _ => ⟨g, 0, rfl, h.lt, fun i x hi => by
    have := h.cell (0 + i * 1)
    simpa [IntAt, hi] using this⟩⟩

structure Works where
  bars : List Rg
  steps : List (List (List Kink))
def WorksV (w : World) (B : Nat) (v : Value) (x : Works) : Prop := ∃ vb vs, v = .agg #[vb, vs] ∧ Rgs w B vb x.bars ∧ Steps w B vs x.steps
theorem WorksV.keep {w w' : World} {B B' : Nat} {v : Value} {x : Works} (h : WorksV w B v x) (hs : Same B w w') (hB : B ≤ B') : WorksV w' B' v x := by
  obtain ⟨vb, vs, hv, h1, h2⟩ := h
  exact ⟨vb, vs, hv, h1.keep hs hB, h2.keep hs hB⟩
end Go.Proofs.Ytigpefjeelgfdaa

/-
  Layer 1, plain: what the chapter's definitions come to, on lists and numbers. No program, no memory.
-/
namespace Go.Proofs.Ytigpefjeelgfdaa
open Go.RowKit

def hardB (n : Int) : Bool := decide (0 ≤ n ∧ n ≤ 1000)
theorem hardB_t {n : Int} (h1 : 0 ≤ n) (h2 : n ≤ 1000) : hardB n = true := by simp [hardB, h1, h2]
theorem hardB_f {n : Int} (h1 : n < 0 ∨ 1000 < n) : hardB n = false := by simp [hardB]; omega
theorem hardB_iff {n : Int} : hardB n = true ↔ 0 ≤ n ∧ n ≤ 1000 := by simp [hardB]
/-- A valid range with hardnesses as ends. -/
def isHardB (lo hi : Int) : Bool := hardB lo && hardB hi && decide (lo ≤ hi)
theorem isHardB_iff {lo hi : Int} : isHardB lo hi = true ↔ 0 ≤ lo ∧ lo ≤ hi ∧ hi ≤ 1000 := by
  simp only [isHardB, Bool.and_eq_true, hardB_iff, decide_eq_true_eq]; omega
theorem isHardB_not {lo hi : Int} (h : ¬ (0 ≤ lo ∧ lo ≤ hi ∧ hi ≤ 1000)) : isHardB lo hi = false := by
  rw [← Bool.not_eq_true, isHardB_iff]; exact h
def inB (n lo hi : Int) : Bool := decide (lo ≤ n ∧ n ≤ hi)

/-! ### what a hardness can be after a way -/
def kFst : List Kink → Rg
  | [] => (0, 0)
  | k :: _ => (k.lo, k.hi)
def aftTo (ks : List Kink) (h : Int) (k : Nat) : Rg := (ks.take k).foldl (fun out x => if x.frm ≤ h then (x.lo, x.hi) else out) (kFst ks)
def aft (ks : List Kink) (h : Int) : Rg := aftTo ks h ks.length
theorem aftTo_zero (ks : List Kink) (h : Int) : aftTo ks h 0 = kFst ks := rfl
theorem aftTo_yes {ks : List Kink} {h : Int} {k : Nat} {x : Kink} (hx : Hid (ks[k]? = some x)) (hl : x.frm ≤ h) : aftTo ks h (k + 1) = (x.lo, x.hi) := by
  unfold aftTo
  rw [take_some hx.out, List.foldl_append]
  simp [hl]
theorem aftTo_no {ks : List Kink} {h : Int} {k : Nat} {x : Kink} (hx : Hid (ks[k]? = some x)) (hl : ¬ x.frm ≤ h) : aftTo ks h (k + 1) = aftTo ks h k := by
  unfold aftTo
  rw [take_some hx.out, List.foldl_append]
  simp [hl]
theorem kFst_of {ks : List Kink} {x : Kink} (hx : Hid (ks[0]? = some x)) : kFst ks = (x.lo, x.hi) := by
  cases ks with
  | nil => simp [Hid] at hx
  | cons k l => have := hx.out; simp at this; subst this; rfl

/-! ### which ways are valid -/
/-- The kink at i (any default behind the end). -/
def kk (ks : List Kink) (i : Nat) : Kink := ks.getD i ⟨0, 0, 0⟩
theorem kk_of {ks : List Kink} {i : Nat} {x : Kink} (hx : Hid (ks[i]? = some x)) : kk ks i = x := by simp [kk, List.getD, hx.out]
/-- The kink at i is as described, held against the one ahead of it (as heat has it: its From is a hardness, too). -/
def kinkOk (ks : List Kink) (i : Nat) : Bool :=
  hardB (kk ks i).frm && isHardB (kk ks i).lo (kk ks i).hi && !(decide (i = 0 ∧ (kk ks i).frm ≠ 0 ∨ 0 < i ∧ (kk ks i).frm ≤ (kk ks (i - 1)).frm))
/-- The same as the document's words have it for the reference: no From is above 1000. -/
def kinkOk' (ks : List Kink) (i : Nat) : Bool :=
  !(decide (i = 0 ∧ (kk ks i).frm ≠ 0 ∨ 0 < i ∧ (kk ks i).frm ≤ (kk ks (i - 1)).frm)) && decide ((kk ks i).frm ≤ 1000) && isHardB (kk ks i).lo (kk ks i).hi
def kinksOk (ks : List Kink) : Bool := allN (kinkOk ks) ks.length
def kinksOk' (ks : List Kink) : Bool := allN (kinkOk' ks) ks.length
theorem kinksOk_eq (ks : List Kink) : kinksOk' ks = kinksOk ks := by
  rw [Bool.eq_iff_iff, kinksOk, kinksOk', allN_iff, allN_iff]
  constructor
  · intro h i hi
    have nn : ∀ j, j < ks.length → 0 ≤ (kk ks j).frm := by
      intro j
      induction j with
      | zero => intro hj; have := h 0 hj; simp [kinkOk'] at this; omega
      | succ j ih => intro hj; have := h (j + 1) hj; have := ih (by omega); simp [kinkOk'] at *; omega
    have h1 := h i hi
    have h2 := nn i hi
    simp only [kinkOk', kinkOk, Bool.and_eq_true, decide_eq_true_eq, hardB_iff] at h1 ⊢
    exact ⟨⟨⟨h2, h1.1.2⟩, h1.2⟩, h1.1.1⟩
  · intro h i hi
    have h1 := h i hi
    simp only [kinkOk', kinkOk, Bool.and_eq_true, decide_eq_true_eq, hardB_iff] at h1 ⊢
    exact ⟨⟨h1.2, h1.1.1.2⟩, h1.1.2⟩

/-- All numbers of the kinks are hardnesses, all ranges valid. -/
def KinksVal (ks : List Kink) : Prop := ∀ (i : Nat) (x : Kink), ks[i]? = some x → 0 ≤ x.lo ∧ x.lo ≤ x.hi ∧ x.hi ≤ 1000 ∧ 0 ≤ x.frm ∧ x.frm ≤ 1000
theorem kinksVal_of {ks : List Kink} (h : kinksOk ks = true) : KinksVal ks := by
  intro i x hx
  have h1 := allN_iff.1 h i (getI hx)
  simp only [kinkOk, kk_of (Lib.hid hx), Bool.and_eq_true, hardB_iff, isHardB_iff] at h1
  omega
/-- The kink at i + 1 against the one at i. -/
def stepOk (ks : List Kink) (i : Nat) : Bool :=
  !(decide ((kk ks (i + 1)).lo < (kk ks i).lo ∨ (kk ks (i + 1)).hi < (kk ks i).hi ∨ (kk ks i).hi + 1 < (kk ks (i + 1)).lo))
def stepsOk (ks : List Kink) : Bool := allN (stepOk ks) (ks.length - 1)
/-- CheckWay. -/
def wayErr (ks : List Kink) : Int :=
  if ks.length < 1 ∨ 12 < ks.length then 6 else if kinksOk ks = false then 3 else if stepsOk ks = false then 16 else 0

end Go.Proofs.Ytigpefjeelgfdaa

/-
  Walks of layer 1, first part: ways and their kinks.
-/
namespace Go.Proofs.Ytigpefjeelgfdaa
open Go.RowKit

set_option maxHeartbeats 400000 in
theorem areHard_any (v : Value) (l : List Int) (B : Nat) (w : World) (h : Ints .i64 w B v l) :
    Calls Try.prog 53 #[v] w fun e w' => e = .returned (.bool (l.all hardB)) ∧ w = w' := by
  obtain ⟨A, c, rfl, h1, h2, h3⟩ := h
  go_enter Try.func53, Try.ntmps53
  go_wp2
  go_loop [4, 7] (fun v i => ∃ k : Nat, k ≤ l.length ∧ i = .int .i64 k ∧ Upto hardB l k) (fun _ i => l.length - (intOf i).toNat)
  case atStart => exact ⟨0, by omega, rfl, Upto.zero _ _⟩
  case round =>
    obtain ⟨k, hk, rfl, hall⟩ := hrel
    by_cases hlt : k < l.length
    · obtain ⟨b, off, x, rfl, hb, hx, hc⟩ := intsA h3 hlt
      by_cases g1 : x < 0
      · go_wp2
        go_ret
        exact ⟨ret_bool (Upto.fail hx (hardB_f (.inl g1))).symm, rfl⟩
      by_cases g2 : 1000 < x
      · go_wp2
        go_ret
        exact ⟨ret_bool (Upto.fail hx (hardB_f (.inr g2))).symm, rfl⟩
      go_wp2
      go_round
      case rel => exact ⟨k + 1, by omega, by go_num, hall.succ hx (hardB_t (by omega) (by omega))⟩
      case measure => simp [intOf]; omega
    · go_wp2
      go_ret
      exact ⟨ret_bool (hall.done (by omega)).symm, rfl⟩

set_option maxHeartbeats 400000 in
theorem isHardRange_any (lo hi : Int) (w : World) :
    Calls Try.prog 59 #[.agg #[.int .i64 lo, .int .i64 hi]] w fun e w' => e = .returned (.bool (isHardB lo hi)) ∧ Below w.heap.size w w' := by
  rcases hb : [lo, hi].all hardB
  · have e : isHardB lo hi = false := by unfold isHardB; simp at hb ⊢; intro a b; simp [hb a] at b
    have H := Lib.hid hb; clear hb
    rw [e]
    clear e
    go_enter Try.func59, Try.ntmps59
    go_wp2_with (go_at_call 53; refine (areHard_any _ [lo, hi] _ _ (ints_box (g := w.heap.size + 1) (Box.new' (by simp)) (by simp) (by simp))).mono ?_; rintro e w' ⟨rfl, rfl⟩; rw [H.out])
    go_ret
    exact ⟨rfl, (by repeat (first | (with_reducible assumption) | (with_reducible exact Below.refl _ _) | ((with_reducible refine Below.alloc ?_ ?_ _); rotate_left; (focus (first | omega | (simp only [World.size_alloc, World.size_setCell, World.size_drew, World.heap_drewN]; first | done | omega)))) | ((with_reducible refine Below.setCell ?_ ?_ _); rotate_left; (focus (first | omega | (simp only [World.size_alloc, World.size_setCell, World.size_drew, World.heap_drewN]; first | done | omega)))) | (with_reducible refine below_drewN ?_ _) | (with_reducible refine Below.drew ?_) | ((with_reducible refine Below.trans ?_ (Below.mono (by assumption) ?_)); rotate_left; (focus (first | omega | (simp only [World.size_alloc, World.size_setCell, World.size_drew, World.heap_drewN]; first | done | omega))))))⟩
  · have e : isHardB lo hi = decide (lo ≤ hi) := by unfold isHardB; simp at hb ⊢; simp [hb]
    have H := Lib.hid hb; clear hb
    rw [e]
    clear e
    go_enter Try.func59, Try.ntmps59
    go_wp2_with (go_at_call 53; refine (areHard_any _ [lo, hi] _ _ (ints_box (g := w.heap.size + 1) (Box.new' (by simp)) (by simp) (by simp))).mono ?_; rintro e w' ⟨rfl, rfl⟩; rw [H.out])
    go_ret
    exact ⟨rfl, (by repeat (first | (with_reducible assumption) | (with_reducible exact Below.refl _ _) | ((with_reducible refine Below.alloc ?_ ?_ _); rotate_left; (focus (first | omega | (simp only [World.size_alloc, World.size_setCell, World.size_drew, World.heap_drewN]; first | done | omega)))) | ((with_reducible refine Below.setCell ?_ ?_ _); rotate_left; (focus (first | omega | (simp only [World.size_alloc, World.size_setCell, World.size_drew, World.heap_drewN]; first | done | omega)))) | (with_reducible refine below_drewN ?_ _) | (with_reducible refine Below.drew ?_) | ((with_reducible refine Below.trans ?_ (Below.mono (by assumption) ?_)); rotate_left; (focus (first | omega | (simp only [World.size_alloc, World.size_setCell, World.size_drew, World.heap_drewN]; first | done | omega))))))⟩

set_option maxHeartbeats 400000 in
theorem refIsHard_any (lo hi : Int) (w : World) :
    Calls Try.prog 47 #[.agg #[.int .i64 lo, .int .i64 hi]] w fun e w' => e = .returned (.bool (isHardB lo hi)) ∧ Below w.heap.size w w' := by
  by_cases h1 : 0 ≤ lo ∧ lo ≤ hi ∧ hi ≤ 1000
  · rw [isHardB_iff.2 h1]
    obtain ⟨a, b, c⟩ := h1
    go_enter Try.func47, Try.ntmps47
    go_wp2
    go_ret
    exact ⟨rfl, (by repeat (first | (with_reducible assumption) | (with_reducible exact Below.refl _ _) | ((with_reducible refine Below.alloc ?_ ?_ _); rotate_left; (focus (first | omega | (simp only [World.size_alloc, World.size_setCell, World.size_drew, World.heap_drewN]; first | done | omega)))) | ((with_reducible refine Below.setCell ?_ ?_ _); rotate_left; (focus (first | omega | (simp only [World.size_alloc, World.size_setCell, World.size_drew, World.heap_drewN]; first | done | omega)))) | (with_reducible refine below_drewN ?_ _) | (with_reducible refine Below.drew ?_) | ((with_reducible refine Below.trans ?_ (Below.mono (by assumption) ?_)); rotate_left; (focus (first | omega | (simp only [World.size_alloc, World.size_setCell, World.size_drew, World.heap_drewN]; first | done | omega))))))⟩
  · rw [isHardB_not h1]
    have H := Lib.hid h1; clear h1
    go_enter Try.func47, Try.ntmps47
    go_wp2
    all_goals go_ret
    all_goals exact ⟨ret_bool (by first | rfl | (simp; done) | (simp; have := H.out; omega)), (by repeat (first | (with_reducible assumption) | (with_reducible exact Below.refl _ _) | ((with_reducible refine Below.alloc ?_ ?_ _); rotate_left; (focus (first | omega | (simp only [World.size_alloc, World.size_setCell, World.size_drew, World.heap_drewN]; first | done | omega)))) | ((with_reducible refine Below.setCell ?_ ?_ _); rotate_left; (focus (first | omega | (simp only [World.size_alloc, World.size_setCell, World.size_drew, World.heap_drewN]; first | done | omega)))) | (with_reducible refine below_drewN ?_ _) | (with_reducible refine Below.drew ?_) | ((with_reducible refine Below.trans ?_ (Below.mono (by assumption) ?_)); rotate_left; (focus (first | omega | (simp only [World.size_alloc, World.size_setCell, World.size_drew, World.heap_drewN]; first | done | omega))))))⟩

set_option maxHeartbeats 400000 in
theorem refIn_any (n lo hi : Int) (w : World) :
    Calls Try.prog 46 #[.int .i64 n, .agg #[.int .i64 lo, .int .i64 hi]] w fun e w' => e = .returned (.bool (inB n lo hi)) ∧ Below w.heap.size w w' := by
  go_enter Try.func46, Try.ntmps46
  go_wp2
  all_goals go_ret
  all_goals exact ⟨ret_bool (by simp [inB]; try omega), (by repeat (first | (with_reducible assumption) | (with_reducible exact Below.refl _ _) | ((with_reducible refine Below.alloc ?_ ?_ _); rotate_left; (focus (first | omega | (simp only [World.size_alloc, World.size_setCell, World.size_drew, World.heap_drewN]; first | done | omega)))) | ((with_reducible refine Below.setCell ?_ ?_ _); rotate_left; (focus (first | omega | (simp only [World.size_alloc, World.size_setCell, World.size_drew, World.heap_drewN]; first | done | omega)))) | (with_reducible refine below_drewN ?_ _) | (with_reducible refine Below.drew ?_) | ((with_reducible refine Below.trans ?_ (Below.mono (by assumption) ?_)); rotate_left; (focus (first | omega | (simp only [World.size_alloc, World.size_setCell, World.size_drew, World.heap_drewN]; first | done | omega))))))⟩

set_option maxHeartbeats 400000 in
theorem contains_any (n lo hi : Int) (w : World) :
    Calls Try.prog 65 #[.agg #[.int .i64 lo, .int .i64 hi], .int .i64 n] w fun e w' => e = .returned (.bool (inB n lo hi)) ∧ Below w.heap.size w w' := by
  go_enter Try.func65, Try.ntmps65
  go_wp2
  all_goals go_ret
  all_goals exact ⟨ret_bool (by simp [inB]; try omega), (by repeat (first | (with_reducible assumption) | (with_reducible exact Below.refl _ _) | ((with_reducible refine Below.alloc ?_ ?_ _); rotate_left; (focus (first | omega | (simp only [World.size_alloc, World.size_setCell, World.size_drew, World.heap_drewN]; first | done | omega)))) | ((with_reducible refine Below.setCell ?_ ?_ _); rotate_left; (focus (first | omega | (simp only [World.size_alloc, World.size_setCell, World.size_drew, World.heap_drewN]; first | done | omega)))) | (with_reducible refine below_drewN ?_ _) | (with_reducible refine Below.drew ?_) | ((with_reducible refine Below.trans ?_ (Below.mono (by assumption) ?_)); rotate_left; (focus (first | omega | (simp only [World.size_alloc, World.size_setCell, World.size_drew, World.heap_drewN]; first | done | omega))))))⟩

set_option maxHeartbeats 400000 in
theorem heatAfter_any (A : Option Addr) (c : Nat) (ks : List Kink) (hard : Int) (B : Nat) (w : World) (h : KinksA w B A ks) (hc : ks.length ≤ c) (hm : c ≤ 9223372036854775807) (hB : B ≤ w.heap.size) (h0 : 0 < ks.length) :
    Calls Try.prog 54 #[.agg #[.slice A ks.length c], .int .i64 hard] w fun e w' => e = .returned (.agg #[.int .i64 (aft ks hard).1, .int .i64 (aft ks hard).2]) ∧ Below w.heap.size w w' := by
  obtain ⟨b, off, f0, x0, y0, rfl, hb, hx0, c0, c1, c2⟩ := kinksA h h0
  simp only [Nat.zero_mul, Nat.add_zero] at c0 c1 c2
  have hbw : b < w.heap.size := by omega
  go_enter Try.func54, Try.ntmps54
  go_wp2
  go_loopw [7, 16] (fun u i wr => ∃ (k : Nat) (lo hi : Int), k ≤ ks.length ∧ i = .int .i64 k ∧ Hid (aftTo ks hard k = (lo, hi)) ∧ Below w.heap.size w wr ∧
      Box wr (w.heap.size + 1 + 1) 33 #[.int .i64 lo, .int .i64 hi] ∧ Box wr (w.heap.size + 1) 33 #[.int .i64 0, .int .i64 0])
    (fun _ i _ => ks.length - (intOf i).toNat)
  case atStart =>
    refine ⟨0, x0, y0, by omega, rfl, Lib.hid (by rw [aftTo_zero, kFst_of hx0]), (by repeat (first | (with_reducible assumption) | (with_reducible exact Below.refl _ _) | ((with_reducible refine Below.alloc ?_ ?_ _); rotate_left; (focus (first | omega | (simp only [World.size_alloc, World.size_setCell, World.size_drew, World.heap_drewN]; first | done | omega)))) | ((with_reducible refine Below.setCell ?_ ?_ _); rotate_left; (focus (first | omega | (simp only [World.size_alloc, World.size_setCell, World.size_drew, World.heap_drewN]; first | done | omega)))) | (with_reducible refine below_drewN ?_ _) | (with_reducible refine Below.drew ?_) | ((with_reducible refine Below.trans ?_ (Below.mono (by assumption) ?_)); rotate_left; (focus (first | omega | (simp only [World.size_alloc, World.size_setCell, World.size_drew, World.heap_drewN]; first | done | omega)))))), ?_, ?_⟩
    all_goals (refine Box.of_f ?_; repeat (first | ((with_reducible refine BoxF.done (by with_reducible assumption) ?_); rfl) | ((with_reducible refine BoxF.new ?_ ?_); (focus (first | omega | (simp only [World.size_alloc, World.size_setCell, World.size_drew, World.heap_drewN]; first | done | omega))); rfl) | ((with_reducible refine BoxF.alloc ?_ ?_); (focus (first | omega | (simp only [World.size_alloc, World.size_setCell, World.size_drew, World.heap_drewN]; first | done | omega)))) | (with_reducible refine BoxF.set ?_) | ((with_reducible refine BoxF.far ?_ ?_); ((try simp only []); omega)) | (with_reducible refine BoxF.drewN ?_) | (with_reducible refine BoxF.drew ?_) | ((with_reducible refine BoxF.below (by with_reducible assumption) ?_ ?_); (focus (first | omega | (simp only [World.size_alloc, World.size_setCell, World.size_drew, World.heap_drewN]; first | done | omega))))))
  case round =>
    obtain ⟨k, lo, hi, hk, rfl, H, hbl, bo, br⟩ := hrel
    obtain ⟨o1, o2, o3, o4⟩ := bo.two
    obtain ⟨r1, r2, r3, r4⟩ := br.two
    have hs1 := bo.lt
    by_cases hlt : k < ks.length
    · obtain ⟨b', off', f, x, y, e, hb', hx, d0, d1, d2⟩ := kinksA (kinks_on h hbl hB) hlt
      obtain ⟨rfl, rfl⟩ : b' = b ∧ off' = off := by simp at e; exact ⟨e.1.symm, e.2.symm⟩
      clear e
      have hbr : b' < wr.heap.size := by omega
      by_cases g : f ≤ hard
      · go_wp2
        go_roundw
        case rel =>
          refine ⟨k + 1, x, y, by omega, by go_num, Lib.hid (aftTo_yes hx g), (by repeat (first | (with_reducible assumption) | (with_reducible exact Below.refl _ _) | ((with_reducible refine Below.alloc ?_ ?_ _); rotate_left; (focus (first | omega | (simp only [World.size_alloc, World.size_setCell, World.size_drew, World.heap_drewN]; first | done | omega)))) | ((with_reducible refine Below.setCell ?_ ?_ _); rotate_left; (focus (first | omega | (simp only [World.size_alloc, World.size_setCell, World.size_drew, World.heap_drewN]; first | done | omega)))) | (with_reducible refine below_drewN ?_ _) | (with_reducible refine Below.drew ?_) | ((with_reducible refine Below.trans ?_ (Below.mono (by assumption) ?_)); rotate_left; (focus (first | omega | (simp only [World.size_alloc, World.size_setCell, World.size_drew, World.heap_drewN]; first | done | omega)))))), ?_, ?_⟩
          all_goals (refine Box.of_f ?_; repeat (first | ((with_reducible refine BoxF.done (by with_reducible assumption) ?_); rfl) | ((with_reducible refine BoxF.new ?_ ?_); (focus (first | omega | (simp only [World.size_alloc, World.size_setCell, World.size_drew, World.heap_drewN]; first | done | omega))); rfl) | ((with_reducible refine BoxF.alloc ?_ ?_); (focus (first | omega | (simp only [World.size_alloc, World.size_setCell, World.size_drew, World.heap_drewN]; first | done | omega)))) | (with_reducible refine BoxF.set ?_) | ((with_reducible refine BoxF.far ?_ ?_); ((try simp only []); omega)) | (with_reducible refine BoxF.drewN ?_) | (with_reducible refine BoxF.drew ?_) | ((with_reducible refine BoxF.below (by with_reducible assumption) ?_ ?_); (focus (first | omega | (simp only [World.size_alloc, World.size_setCell, World.size_drew, World.heap_drewN]; first | done | omega))))))
        case measure => simp [intOf]; omega
      · go_wp2
        go_roundw
        case rel =>
          refine ⟨k + 1, lo, hi, by omega, by go_num, Lib.hid ((aftTo_no hx g).trans H.out), (by repeat (first | (with_reducible assumption) | (with_reducible exact Below.refl _ _) | ((with_reducible refine Below.alloc ?_ ?_ _); rotate_left; (focus (first | omega | (simp only [World.size_alloc, World.size_setCell, World.size_drew, World.heap_drewN]; first | done | omega)))) | ((with_reducible refine Below.setCell ?_ ?_ _); rotate_left; (focus (first | omega | (simp only [World.size_alloc, World.size_setCell, World.size_drew, World.heap_drewN]; first | done | omega)))) | (with_reducible refine below_drewN ?_ _) | (with_reducible refine Below.drew ?_) | ((with_reducible refine Below.trans ?_ (Below.mono (by assumption) ?_)); rotate_left; (focus (first | omega | (simp only [World.size_alloc, World.size_setCell, World.size_drew, World.heap_drewN]; first | done | omega)))))), ?_, ?_⟩
          all_goals (refine Box.of_f ?_; repeat (first | ((with_reducible refine BoxF.done (by with_reducible assumption) ?_); rfl) | ((with_reducible refine BoxF.new ?_ ?_); (focus (first | omega | (simp only [World.size_alloc, World.size_setCell, World.size_drew, World.heap_drewN]; first | done | omega))); rfl) | ((with_reducible refine BoxF.alloc ?_ ?_); (focus (first | omega | (simp only [World.size_alloc, World.size_setCell, World.size_drew, World.heap_drewN]; first | done | omega)))) | (with_reducible refine BoxF.set ?_) | ((with_reducible refine BoxF.far ?_ ?_); ((try simp only []); omega)) | (with_reducible refine BoxF.drewN ?_) | (with_reducible refine BoxF.drew ?_) | ((with_reducible refine BoxF.below (by with_reducible assumption) ?_ ?_); (focus (first | omega | (simp only [World.size_alloc, World.size_setCell, World.size_drew, World.heap_drewN]; first | done | omega))))))
        case measure => simp [intOf]; omega
    · have e1 : aft ks hard = (lo, hi) := by rw [← H.out, show k = ks.length from by omega]; rfl
      have E1 := Lib.hid e1
      clear e1
      go_wp2
      refine bodyPost_ret (v := .agg #[.int .i64 lo, .int .i64 hi]) (by simp [results, Try.results54, go_sem, *]) rfl ?_
      rw [E1.out]
      exact ⟨rfl, (by repeat (first | (with_reducible assumption) | (with_reducible exact Below.refl _ _) | ((with_reducible refine Below.alloc ?_ ?_ _); rotate_left; (focus (first | omega | (simp only [World.size_alloc, World.size_setCell, World.size_drew, World.heap_drewN]; first | done | omega)))) | ((with_reducible refine Below.setCell ?_ ?_ _); rotate_left; (focus (first | omega | (simp only [World.size_alloc, World.size_setCell, World.size_drew, World.heap_drewN]; first | done | omega)))) | (with_reducible refine below_drewN ?_ _) | (with_reducible refine Below.drew ?_) | ((with_reducible refine Below.trans ?_ (Below.mono (by assumption) ?_)); rotate_left; (focus (first | omega | (simp only [World.size_alloc, World.size_setCell, World.size_drew, World.heap_drewN]; first | done | omega))))))⟩
end Go.Proofs.Ytigpefjeelgfdaa

/-
  Walks of layer 1, second part: which ways are valid.
-/
namespace Go.Proofs.Ytigpefjeelgfdaa
open Go.RowKit

theorem isHard_cases (lo hi : Int) : isHardB lo hi = true ∨ isHardB lo hi = false := by cases isHardB lo hi <;> simp

set_option maxHeartbeats 400000 in
theorem heatKinksInRange_any (A : Option Addr) (c : Nat) (ks : List Kink) (B : Nat) (w : World) (h : KinksA w B A ks) (hc : ks.length ≤ c) (hm : c ≤ 9223372036854775807) (hB : B ≤ w.heap.size) :
    Calls Try.prog 56 #[.slice A ks.length c] w fun e w' => e = .returned (.bool (kinksOk ks)) ∧ Below w.heap.size w w' := by
  go_enter Try.func56, Try.ntmps56
  go_wp2
  go_loopw [3, 4, 7] (fun _ _ i wr => ∃ (k : Nat), k ≤ ks.length ∧ i = .int .i64 k ∧ UptoN (kinkOk ks) k ∧ Below w.heap.size w wr)
    (fun _ _ i _ => ks.length - (intOf i).toNat)
  case atStart =>
    exact ⟨0, by omega, rfl, UptoN.zero _, (by repeat (first | (with_reducible assumption) | (with_reducible exact Below.refl _ _) | ((with_reducible refine Below.alloc ?_ ?_ _); rotate_left; (focus (first | omega | (simp only [World.size_alloc, World.size_setCell, World.size_drew, World.heap_drewN]; first | done | omega)))) | ((with_reducible refine Below.setCell ?_ ?_ _); rotate_left; (focus (first | omega | (simp only [World.size_alloc, World.size_setCell, World.size_drew, World.heap_drewN]; first | done | omega)))) | (with_reducible refine below_drewN ?_ _) | (with_reducible refine Below.drew ?_) | ((with_reducible refine Below.trans ?_ (Below.mono (by assumption) ?_)); rotate_left; (focus (first | omega | (simp only [World.size_alloc, World.size_setCell, World.size_drew, World.heap_drewN]; first | done | omega))))))⟩
  case round =>
    obtain ⟨k, hk, rfl, hup, hbl⟩ := hrel
    by_cases hlt : k < ks.length
    · obtain ⟨b, off, f, x, y, rfl, hb, hx, d0, d1, d2⟩ := kinksA (kinks_on h hbl hB) hlt
      have hs := hbl.size
      have hbr : b < wr.heap.size := by omega
      have hkk := Lib.hid (kk_of hx)
      by_cases g1 : hardB f = true
      · have G1 : Hid ([f].all hardB = true) := by simp [Hid, g1]
        have G1' := Lib.hid g1
        clear g1
        rcases isHard_cases x y with g2 | g2
        · have G2 := Lib.hid g2
          clear g2
          by_cases hk0 : k = 0
          · subst hk0
            simp only [Nat.zero_mul, Nat.add_zero] at d0 d1 d2
            by_cases g3 : f = 0
            · have ok : kinkOk ks 0 = true := by simp [kinkOk, hkk.out, G2.out, g3, hardB]
              have Ok := Lib.hid ok
              have g3' : (f == 0) = true := by simp [g3]
              have g3'' : (f != 0) = false := by simp [g3]
              clear ok g3
              go_wp2_with (first
                | (go_at_call 53; refine (areHard_any _ [f] _ _ (ints_box (g := wr.heap.size + 1) (Box.new' (by (focus (first | omega | (simp only [World.size_alloc, World.size_setCell, World.size_drew, World.heap_drewN]; first | done | omega))))) (by simp) (by simp))).mono ?_; rintro e w' ⟨rfl, rfl⟩; rw [G1.out])
                | (go_at_call 59; refine (isHardRange_any _ _ _).mono ?_; rintro e w1 ⟨rfl, hb1⟩; rw [G2.out]; obtain ⟨hr1, hr2⟩ := below_reads hb1; obtain ⟨hr3, hr4⟩ := below_reads (hb1.mono (B' := wr.heap.size) (by (focus (first | omega | (simp only [World.size_alloc, World.size_setCell, World.size_drew, World.heap_drewN]; first | done | omega)))))))
              go_quiet (fail)
              go_wp2
              go_roundw
              case rel => exact ⟨1, by omega, by go_num, hup.succ Ok.out, (by repeat (first | (with_reducible assumption) | (with_reducible exact Below.refl _ _) | ((with_reducible refine Below.alloc ?_ ?_ _); rotate_left; (focus (first | omega | (simp only [World.size_alloc, World.size_setCell, World.size_drew, World.heap_drewN]; first | done | omega)))) | ((with_reducible refine Below.setCell ?_ ?_ _); rotate_left; (focus (first | omega | (simp only [World.size_alloc, World.size_setCell, World.size_drew, World.heap_drewN]; first | done | omega)))) | (with_reducible refine below_drewN ?_ _) | (with_reducible refine Below.drew ?_) | ((with_reducible refine Below.trans ?_ (Below.mono (by assumption) ?_)); rotate_left; (focus (first | omega | (simp only [World.size_alloc, World.size_setCell, World.size_drew, World.heap_drewN]; first | done | omega))))))⟩
              case measure => simp [intOf]; omega
            · have g3' : (f == 0) = false := by simp [g3]
              have g3'' : (f != 0) = true := by simp [g3]
              have bad : kinkOk ks 0 = false := by simp [kinkOk, hkk.out, g3]
              have Bad := Lib.hid bad
              clear bad
              go_wp2_with (first
                | (go_at_call 53; refine (areHard_any _ [f] _ _ (ints_box (g := wr.heap.size + 1) (Box.new' (by (focus (first | omega | (simp only [World.size_alloc, World.size_setCell, World.size_drew, World.heap_drewN]; first | done | omega))))) (by simp) (by simp))).mono ?_; rintro e w' ⟨rfl, rfl⟩; rw [G1.out])
                | (go_at_call 59; refine (isHardRange_any _ _ _).mono ?_; rintro e w1 ⟨rfl, hb1⟩; rw [G2.out]; obtain ⟨hr1, hr2⟩ := below_reads hb1; obtain ⟨hr3, hr4⟩ := below_reads (hb1.mono (B' := wr.heap.size) (by (focus (first | omega | (simp only [World.size_alloc, World.size_setCell, World.size_drew, World.heap_drewN]; first | done | omega)))))))
              go_quiet (fail)
              go_wp2
              go_ret
              exact ⟨ret_bool (UptoN.fail hlt Bad.out).symm, (by repeat (first | (with_reducible assumption) | (with_reducible exact Below.refl _ _) | ((with_reducible refine Below.alloc ?_ ?_ _); rotate_left; (focus (first | omega | (simp only [World.size_alloc, World.size_setCell, World.size_drew, World.heap_drewN]; first | done | omega)))) | ((with_reducible refine Below.setCell ?_ ?_ _); rotate_left; (focus (first | omega | (simp only [World.size_alloc, World.size_setCell, World.size_drew, World.heap_drewN]; first | done | omega)))) | (with_reducible refine below_drewN ?_ _) | (with_reducible refine Below.drew ?_) | ((with_reducible refine Below.trans ?_ (Below.mono (by assumption) ?_)); rotate_left; (focus (first | omega | (simp only [World.size_alloc, World.size_setCell, World.size_drew, World.heap_drewN]; first | done | omega))))))⟩
          · obtain ⟨j, rfl⟩ : ∃ j, k = j + 1 := ⟨k - 1, by omega⟩
            clear hk0
            obtain ⟨b', off', p, x', y', e, hb', hx', c0, c1, c2⟩ := kinksA (kinks_on h hbl hB) (i := j) (by omega)
            obtain ⟨rfl, rfl⟩ : b' = b ∧ off' = off := by simp at e; exact ⟨e.1.symm, e.2.symm⟩
            clear e
            have hkk' := Lib.hid (kk_of hx')
            have z1 : ((j : Int) + 1 == 0) = false := by simp; omega
            have z2 : decide ((0 : Int) < (j : Int) + 1) = true := by simp; try omega
            have z3 : IntKind.i64.wrap (j : Int) = (j : Int) := IntWalk.i64_in _ (by omega)
            have z4 : (0 : Int) ≤ (j : Int) := by omega
            have z5 : (j : Int) < (ks.length : Int) := by omega
            by_cases g3 : f ≤ p
            · have bad : kinkOk ks (j + 1) = false := by simp [kinkOk, hkk.out, hkk'.out, g3]
              have Bad := Lib.hid bad
              clear bad
              go_wp2_with (first
                | (go_at_call 53; refine (areHard_any _ [f] _ _ (ints_box (g := wr.heap.size + 1) (Box.new' (by (focus (first | omega | (simp only [World.size_alloc, World.size_setCell, World.size_drew, World.heap_drewN]; first | done | omega))))) (by simp) (by simp))).mono ?_; rintro e w' ⟨rfl, rfl⟩; rw [G1.out])
                | (go_at_call 59; refine (isHardRange_any _ _ _).mono ?_; rintro e w1 ⟨rfl, hb1⟩; rw [G2.out]; obtain ⟨hr1, hr2⟩ := below_reads hb1; obtain ⟨hr3, hr4⟩ := below_reads (hb1.mono (B' := wr.heap.size) (by (focus (first | omega | (simp only [World.size_alloc, World.size_setCell, World.size_drew, World.heap_drewN]; first | done | omega)))))))
              go_quiet (fail)
              go_wp2
              go_ret
              exact ⟨ret_bool (UptoN.fail hlt Bad.out).symm, (by repeat (first | (with_reducible assumption) | (with_reducible exact Below.refl _ _) | ((with_reducible refine Below.alloc ?_ ?_ _); rotate_left; (focus (first | omega | (simp only [World.size_alloc, World.size_setCell, World.size_drew, World.heap_drewN]; first | done | omega)))) | ((with_reducible refine Below.setCell ?_ ?_ _); rotate_left; (focus (first | omega | (simp only [World.size_alloc, World.size_setCell, World.size_drew, World.heap_drewN]; first | done | omega)))) | (with_reducible refine below_drewN ?_ _) | (with_reducible refine Below.drew ?_) | ((with_reducible refine Below.trans ?_ (Below.mono (by assumption) ?_)); rotate_left; (focus (first | omega | (simp only [World.size_alloc, World.size_setCell, World.size_drew, World.heap_drewN]; first | done | omega))))))⟩
            · have ok : kinkOk ks (j + 1) = true := by simp [kinkOk, hkk.out, hkk'.out, G2.out, G1'.out]; omega
              have g3' : decide (f ≤ p) = false := by simpa using g3
              have Ok := Lib.hid ok
              clear ok
              go_wp2_with (first
                | (go_at_call 53; refine (areHard_any _ [f] _ _ (ints_box (g := wr.heap.size + 1) (Box.new' (by (focus (first | omega | (simp only [World.size_alloc, World.size_setCell, World.size_drew, World.heap_drewN]; first | done | omega))))) (by simp) (by simp))).mono ?_; rintro e w' ⟨rfl, rfl⟩; rw [G1.out])
                | (go_at_call 59; refine (isHardRange_any _ _ _).mono ?_; rintro e w1 ⟨rfl, hb1⟩; rw [G2.out]; obtain ⟨hr1, hr2⟩ := below_reads hb1; obtain ⟨hr3, hr4⟩ := below_reads (hb1.mono (B' := wr.heap.size) (by (focus (first | omega | (simp only [World.size_alloc, World.size_setCell, World.size_drew, World.heap_drewN]; first | done | omega)))))))
              go_quiet (fail)
              go_wp2
              go_roundw
              case rel => exact ⟨j + 1 + 1, by omega, by go_num, hup.succ Ok.out, (by repeat (first | (with_reducible assumption) | (with_reducible exact Below.refl _ _) | ((with_reducible refine Below.alloc ?_ ?_ _); rotate_left; (focus (first | omega | (simp only [World.size_alloc, World.size_setCell, World.size_drew, World.heap_drewN]; first | done | omega)))) | ((with_reducible refine Below.setCell ?_ ?_ _); rotate_left; (focus (first | omega | (simp only [World.size_alloc, World.size_setCell, World.size_drew, World.heap_drewN]; first | done | omega)))) | (with_reducible refine below_drewN ?_ _) | (with_reducible refine Below.drew ?_) | ((with_reducible refine Below.trans ?_ (Below.mono (by assumption) ?_)); rotate_left; (focus (first | omega | (simp only [World.size_alloc, World.size_setCell, World.size_drew, World.heap_drewN]; first | done | omega))))))⟩
              case measure => simp [intOf]; omega
        · have G2 := Lib.hid g2
          clear g2
          have bad : kinkOk ks k = false := by simp [kinkOk, hkk.out, G2.out]
          have Bad := Lib.hid bad
          clear bad
          go_wp2_with (first
            | (go_at_call 53; refine (areHard_any _ [f] _ _ (ints_box (g := wr.heap.size + 1) (Box.new' (by (focus (first | omega | (simp only [World.size_alloc, World.size_setCell, World.size_drew, World.heap_drewN]; first | done | omega))))) (by simp) (by simp))).mono ?_; rintro e w' ⟨rfl, rfl⟩; rw [G1.out])
            | (go_at_call 59; refine (isHardRange_any _ _ _).mono ?_; rintro e w1 ⟨rfl, hb1⟩; rw [G2.out]))
          go_ret
          exact ⟨ret_bool (UptoN.fail hlt Bad.out).symm, (by repeat (first | (with_reducible assumption) | (with_reducible exact Below.refl _ _) | ((with_reducible refine Below.alloc ?_ ?_ _); rotate_left; (focus (first | omega | (simp only [World.size_alloc, World.size_setCell, World.size_drew, World.heap_drewN]; first | done | omega)))) | ((with_reducible refine Below.setCell ?_ ?_ _); rotate_left; (focus (first | omega | (simp only [World.size_alloc, World.size_setCell, World.size_drew, World.heap_drewN]; first | done | omega)))) | (with_reducible refine below_drewN ?_ _) | (with_reducible refine Below.drew ?_) | ((with_reducible refine Below.trans ?_ (Below.mono (by assumption) ?_)); rotate_left; (focus (first | omega | (simp only [World.size_alloc, World.size_setCell, World.size_drew, World.heap_drewN]; first | done | omega))))))⟩
      · have g1 : hardB f = false := by simpa using g1
        have G1 : Hid ([f].all hardB = false) := by simp [Hid, g1]
        have bad : kinkOk ks k = false := by simp [kinkOk, hkk.out, g1]
        have Bad := Lib.hid bad
        clear bad g1
        go_wp2_with (go_at_call 53; refine (areHard_any _ [f] _ _ (ints_box (g := wr.heap.size + 1) (Box.new' (by (focus (first | omega | (simp only [World.size_alloc, World.size_setCell, World.size_drew, World.heap_drewN]; first | done | omega))))) (by simp) (by simp))).mono ?_; rintro e w' ⟨rfl, rfl⟩; rw [G1.out])
        go_ret
        exact ⟨ret_bool (UptoN.fail hlt Bad.out).symm, (by repeat (first | (with_reducible assumption) | (with_reducible exact Below.refl _ _) | ((with_reducible refine Below.alloc ?_ ?_ _); rotate_left; (focus (first | omega | (simp only [World.size_alloc, World.size_setCell, World.size_drew, World.heap_drewN]; first | done | omega)))) | ((with_reducible refine Below.setCell ?_ ?_ _); rotate_left; (focus (first | omega | (simp only [World.size_alloc, World.size_setCell, World.size_drew, World.heap_drewN]; first | done | omega)))) | (with_reducible refine below_drewN ?_ _) | (with_reducible refine Below.drew ?_) | ((with_reducible refine Below.trans ?_ (Below.mono (by assumption) ?_)); rotate_left; (focus (first | omega | (simp only [World.size_alloc, World.size_setCell, World.size_drew, World.heap_drewN]; first | done | omega))))))⟩
    · go_wp2
      go_ret
      exact ⟨ret_bool (UptoN.done hup (by omega)).symm, (by repeat (first | (with_reducible assumption) | (with_reducible exact Below.refl _ _) | ((with_reducible refine Below.alloc ?_ ?_ _); rotate_left; (focus (first | omega | (simp only [World.size_alloc, World.size_setCell, World.size_drew, World.heap_drewN]; first | done | omega)))) | ((with_reducible refine Below.setCell ?_ ?_ _); rotate_left; (focus (first | omega | (simp only [World.size_alloc, World.size_setCell, World.size_drew, World.heap_drewN]; first | done | omega)))) | (with_reducible refine below_drewN ?_ _) | (with_reducible refine Below.drew ?_) | ((with_reducible refine Below.trans ?_ (Below.mono (by assumption) ?_)); rotate_left; (focus (first | omega | (simp only [World.size_alloc, World.size_setCell, World.size_drew, World.heap_drewN]; first | done | omega))))))⟩
end Go.Proofs.Ytigpefjeelgfdaa

/-
  Walks of layer 1, third part: kinks in order.
-/
namespace Go.Proofs.Ytigpefjeelgfdaa
open Go.RowKit

set_option maxHeartbeats 400000 in
theorem heatKinksInOrder_any (A : Option Addr) (c : Nat) (ks : List Kink) (B : Nat) (w : World) (h : KinksA w B A ks) (hc : ks.length ≤ c) (hm : c ≤ 9223372036854775807) (hB : B ≤ w.heap.size)
    (hv : KinksVal ks) :
    Calls Try.prog 57 #[.slice A ks.length c] w fun e w' => e = .returned (.bool (stepsOk ks)) ∧ Below w.heap.size w w' := by
  go_enter Try.func57, Try.ntmps57
  go_wp2
  go_loopw [3, 4, 5] (fun i _ _ wr => ∃ (j : Nat), j ≤ ks.length ∧ i = .int .i64 (j + 1) ∧ UptoN (stepOk ks) j ∧ Below w.heap.size w wr)
    (fun i _ _ _ => ks.length + 1 - (intOf i).toNat)
  case atStart =>
    exact ⟨0, by omega, rfl, UptoN.zero _, (by repeat (first | (with_reducible assumption) | (with_reducible exact Below.refl _ _) | ((with_reducible refine Below.alloc ?_ ?_ _); rotate_left; (focus (first | omega | (simp only [World.size_alloc, World.size_setCell, World.size_drew, World.heap_drewN]; first | done | omega)))) | ((with_reducible refine Below.setCell ?_ ?_ _); rotate_left; (focus (first | omega | (simp only [World.size_alloc, World.size_setCell, World.size_drew, World.heap_drewN]; first | done | omega)))) | (with_reducible refine below_drewN ?_ _) | (with_reducible refine Below.drew ?_) | ((with_reducible refine Below.trans ?_ (Below.mono (by assumption) ?_)); rotate_left; (focus (first | omega | (simp only [World.size_alloc, World.size_setCell, World.size_drew, World.heap_drewN]; first | done | omega))))))⟩
  case round =>
    obtain ⟨j, hk, rfl, hup, hbl⟩ := hrel
    by_cases hlt : j + 1 < ks.length
    · obtain ⟨b, off, f, x, y, rfl, hb, hx, d0, d1, d2⟩ := kinksA (kinks_on h hbl hB) hlt
      obtain ⟨b', off', p, x', y', e, hb', hx', c0, c1, c2⟩ := kinksA (kinks_on h hbl hB) (i := j) (by omega)
      obtain ⟨rfl, rfl⟩ : b' = b ∧ off' = off := by simp at e; exact ⟨e.1.symm, e.2.symm⟩
      clear e
      have hkk := Lib.hid (kk_of hx)
      have hkk' := Lib.hid (kk_of hx')
      have hs := hbl.size
      have hbr : b' < wr.heap.size := by omega
      obtain ⟨v1, v2, v3, _⟩ := hv _ _ hx.out
      obtain ⟨u1, u2, u3, _⟩ := hv _ _ hx'.out
      simp only at v1 v2 v3 u1 u2 u3
      have z3 : IntKind.i64.wrap (j : Int) = (j : Int) := IntWalk.i64_in _ (by omega)
      have z4 : (0 : Int) ≤ (j : Int) := by omega
      have z5 : (j : Int) < (ks.length : Int) := by omega
      have z6 : (j : Int) + 1 < (ks.length : Int) := by omega
      clear hx hx'
      rcases Bool.eq_false_or_eq_true (stepOk ks j) with q | q
      · have q' : ¬ (x < x' ∨ y < y' ∨ y' + 1 < x) := by simpa [stepOk, hkk.out, hkk'.out] using q
        obtain ⟨q1, q2, q3⟩ : ¬ x < x' ∧ ¬ y < y' ∧ ¬ y' + 1 < x := by omega
        have Q := Lib.hid q
        clear q q'
        go_wp2
        go_region
        all_goals
          go_wp2
          go_roundw
          case rel => exact ⟨j + 1, by omega, by go_num, hup.succ Q.out, (by repeat (first | (with_reducible assumption) | (with_reducible exact Below.refl _ _) | ((with_reducible refine Below.alloc ?_ ?_ _); rotate_left; (focus (first | omega | (simp only [World.size_alloc, World.size_setCell, World.size_drew, World.heap_drewN]; first | done | omega)))) | ((with_reducible refine Below.setCell ?_ ?_ _); rotate_left; (focus (first | omega | (simp only [World.size_alloc, World.size_setCell, World.size_drew, World.heap_drewN]; first | done | omega)))) | (with_reducible refine below_drewN ?_ _) | (with_reducible refine Below.drew ?_) | ((with_reducible refine Below.trans ?_ (Below.mono (by assumption) ?_)); rotate_left; (focus (first | omega | (simp only [World.size_alloc, World.size_setCell, World.size_drew, World.heap_drewN]; first | done | omega))))))⟩
          case measure => simp [intOf]; omega
      · have q' : x < x' ∨ y < y' ∨ y' + 1 < x := by simp [stepOk, hkk.out, hkk'.out] at q; omega
        have Q := Lib.hid q
        clear q
        have R : Hid (stepsOk ks = false) := UptoN.fail (by omega) Q.out
        by_cases q1 : x < x'
        · clear q'
          go_wp2
          go_region
          all_goals
            go_wp2
            go_ret
            exact ⟨ret_bool R.out.symm, (by repeat (first | (with_reducible assumption) | (with_reducible exact Below.refl _ _) | ((with_reducible refine Below.alloc ?_ ?_ _); rotate_left; (focus (first | omega | (simp only [World.size_alloc, World.size_setCell, World.size_drew, World.heap_drewN]; first | done | omega)))) | ((with_reducible refine Below.setCell ?_ ?_ _); rotate_left; (focus (first | omega | (simp only [World.size_alloc, World.size_setCell, World.size_drew, World.heap_drewN]; first | done | omega)))) | (with_reducible refine below_drewN ?_ _) | (with_reducible refine Below.drew ?_) | ((with_reducible refine Below.trans ?_ (Below.mono (by assumption) ?_)); rotate_left; (focus (first | omega | (simp only [World.size_alloc, World.size_setCell, World.size_drew, World.heap_drewN]; first | done | omega))))))⟩
        by_cases q2 : y < y'
        · clear q'
          go_wp2
          go_region
          all_goals
            go_wp2
            go_ret
            exact ⟨ret_bool R.out.symm, (by repeat (first | (with_reducible assumption) | (with_reducible exact Below.refl _ _) | ((with_reducible refine Below.alloc ?_ ?_ _); rotate_left; (focus (first | omega | (simp only [World.size_alloc, World.size_setCell, World.size_drew, World.heap_drewN]; first | done | omega)))) | ((with_reducible refine Below.setCell ?_ ?_ _); rotate_left; (focus (first | omega | (simp only [World.size_alloc, World.size_setCell, World.size_drew, World.heap_drewN]; first | done | omega)))) | (with_reducible refine below_drewN ?_ _) | (with_reducible refine Below.drew ?_) | ((with_reducible refine Below.trans ?_ (Below.mono (by assumption) ?_)); rotate_left; (focus (first | omega | (simp only [World.size_alloc, World.size_setCell, World.size_drew, World.heap_drewN]; first | done | omega))))))⟩
        have q3 : y' + 1 < x := by omega
        clear q'
        go_wp2
        go_region
        all_goals
          go_wp2
          go_ret
          exact ⟨ret_bool R.out.symm, (by repeat (first | (with_reducible assumption) | (with_reducible exact Below.refl _ _) | ((with_reducible refine Below.alloc ?_ ?_ _); rotate_left; (focus (first | omega | (simp only [World.size_alloc, World.size_setCell, World.size_drew, World.heap_drewN]; first | done | omega)))) | ((with_reducible refine Below.setCell ?_ ?_ _); rotate_left; (focus (first | omega | (simp only [World.size_alloc, World.size_setCell, World.size_drew, World.heap_drewN]; first | done | omega)))) | (with_reducible refine below_drewN ?_ _) | (with_reducible refine Below.drew ?_) | ((with_reducible refine Below.trans ?_ (Below.mono (by assumption) ?_)); rotate_left; (focus (first | omega | (simp only [World.size_alloc, World.size_setCell, World.size_drew, World.heap_drewN]; first | done | omega))))))⟩
    · have R : Hid (stepsOk ks = true) := UptoN.done hup (by omega)
      go_wp2
      go_ret
      exact ⟨ret_bool R.out.symm, (by repeat (first | (with_reducible assumption) | (with_reducible exact Below.refl _ _) | ((with_reducible refine Below.alloc ?_ ?_ _); rotate_left; (focus (first | omega | (simp only [World.size_alloc, World.size_setCell, World.size_drew, World.heap_drewN]; first | done | omega)))) | ((with_reducible refine Below.setCell ?_ ?_ _); rotate_left; (focus (first | omega | (simp only [World.size_alloc, World.size_setCell, World.size_drew, World.heap_drewN]; first | done | omega)))) | (with_reducible refine below_drewN ?_ _) | (with_reducible refine Below.drew ?_) | ((with_reducible refine Below.trans ?_ (Below.mono (by assumption) ?_)); rotate_left; (focus (first | omega | (simp only [World.size_alloc, World.size_setCell, World.size_drew, World.heap_drewN]; first | done | omega))))))⟩
end Go.Proofs.Ytigpefjeelgfdaa

/-
  Walks of layer 1, fourth part: CheckWay and After.
-/
namespace Go.Proofs.Ytigpefjeelgfdaa
open Go.RowKit

set_option maxHeartbeats 400000 in
theorem heatCheckWay_any (A : Option Addr) (c : Nat) (ks : List Kink) (B : Nat) (w : World) (h : KinksA w B A ks) (hc : ks.length ≤ c) (hm : c ≤ 9223372036854775807) (hB : B ≤ w.heap.size) :
    Calls Try.prog 19 #[.agg #[.slice A ks.length c]] w fun e w' => e = .returned (.int .i64 (wayErr ks)) ∧ Below w.heap.size w w' := by
  by_cases g1 : ks.length < 1 ∨ 12 < ks.length
  · have E : Hid (wayErr ks = 6) := by simp only [Hid, wayErr]; rw [if_pos g1]
    by_cases g2 : ks.length < 1
    · clear g1
      go_enter Try.func19, Try.ntmps19
      go_wp2_with fail
      go_ret
      exact ⟨ret_int E.out.symm, (by repeat (first | (with_reducible assumption) | (with_reducible exact Below.refl _ _) | ((with_reducible refine Below.alloc ?_ ?_ _); rotate_left; (focus (first | omega | (simp only [World.size_alloc, World.size_setCell, World.size_drew, World.heap_drewN]; first | done | omega)))) | ((with_reducible refine Below.setCell ?_ ?_ _); rotate_left; (focus (first | omega | (simp only [World.size_alloc, World.size_setCell, World.size_drew, World.heap_drewN]; first | done | omega)))) | (with_reducible refine below_drewN ?_ _) | (with_reducible refine Below.drew ?_) | ((with_reducible refine Below.trans ?_ (Below.mono (by assumption) ?_)); rotate_left; (focus (first | omega | (simp only [World.size_alloc, World.size_setCell, World.size_drew, World.heap_drewN]; first | done | omega))))))⟩
    · have g3 : 12 < ks.length := by omega
      clear g1
      go_enter Try.func19, Try.ntmps19
      go_wp2_with fail
      go_ret
      exact ⟨ret_int E.out.symm, (by repeat (first | (with_reducible assumption) | (with_reducible exact Below.refl _ _) | ((with_reducible refine Below.alloc ?_ ?_ _); rotate_left; (focus (first | omega | (simp only [World.size_alloc, World.size_setCell, World.size_drew, World.heap_drewN]; first | done | omega)))) | ((with_reducible refine Below.setCell ?_ ?_ _); rotate_left; (focus (first | omega | (simp only [World.size_alloc, World.size_setCell, World.size_drew, World.heap_drewN]; first | done | omega)))) | (with_reducible refine below_drewN ?_ _) | (with_reducible refine Below.drew ?_) | ((with_reducible refine Below.trans ?_ (Below.mono (by assumption) ?_)); rotate_left; (focus (first | omega | (simp only [World.size_alloc, World.size_setCell, World.size_drew, World.heap_drewN]; first | done | omega))))))⟩
  have n1 : ¬ ks.length < 1 := by omega
  have n2 : ¬ 12 < ks.length := by omega
  cases g2 : kinksOk ks
  · have E : Hid (wayErr ks = 3) := by simp only [Hid, wayErr]; rw [if_neg g1, if_pos g2]
    have G2 := Lib.hid g2
    clear g2 g1
    go_enter Try.func19, Try.ntmps19
    go_wp2_with (go_at_call 56; refine (heatKinksInRange_any _ _ ks B _ (kinks_on h (n := w.heap.size) (by repeat (first | (with_reducible assumption) | (with_reducible exact Below.refl _ _) | ((with_reducible refine Below.alloc ?_ ?_ _); rotate_left; (focus (first | omega | (simp only [World.size_alloc, World.size_setCell, World.size_drew, World.heap_drewN]; first | done | omega)))) | ((with_reducible refine Below.setCell ?_ ?_ _); rotate_left; (focus (first | omega | (simp only [World.size_alloc, World.size_setCell, World.size_drew, World.heap_drewN]; first | done | omega)))) | (with_reducible refine below_drewN ?_ _) | (with_reducible refine Below.drew ?_) | ((with_reducible refine Below.trans ?_ (Below.mono (by assumption) ?_)); rotate_left; (focus (first | omega | (simp only [World.size_alloc, World.size_setCell, World.size_drew, World.heap_drewN]; first | done | omega)))))) hB) hc hm (by (focus (first | omega | (simp only [World.size_alloc, World.size_setCell, World.size_drew, World.heap_drewN]; first | done | omega))))).mono ?_; rintro e w1 ⟨rfl, hb1⟩; rw [G2.out])
    go_ret
    exact ⟨ret_int E.out.symm, (by repeat (first | (with_reducible assumption) | (with_reducible exact Below.refl _ _) | ((with_reducible refine Below.alloc ?_ ?_ _); rotate_left; (focus (first | omega | (simp only [World.size_alloc, World.size_setCell, World.size_drew, World.heap_drewN]; first | done | omega)))) | ((with_reducible refine Below.setCell ?_ ?_ _); rotate_left; (focus (first | omega | (simp only [World.size_alloc, World.size_setCell, World.size_drew, World.heap_drewN]; first | done | omega)))) | (with_reducible refine below_drewN ?_ _) | (with_reducible refine Below.drew ?_) | ((with_reducible refine Below.trans ?_ (Below.mono (by assumption) ?_)); rotate_left; (focus (first | omega | (simp only [World.size_alloc, World.size_setCell, World.size_drew, World.heap_drewN]; first | done | omega))))))⟩
  have V := kinksVal_of g2
  have H2 := Lib.hid g2
  cases g3 : stepsOk ks
  · have E : Hid (wayErr ks = 16) := by simp only [Hid, wayErr]; rw [if_neg g1, if_neg (by simp [g2]), if_pos g3]
    have H3 := Lib.hid g3
    clear g1 g2 g3
    go_enter Try.func19, Try.ntmps19
    go_wp2_with (first
      | (go_at_call 56; refine (heatKinksInRange_any _ _ ks B _ (kinks_on h (n := w.heap.size) (by repeat (first | (with_reducible assumption) | (with_reducible exact Below.refl _ _) | ((with_reducible refine Below.alloc ?_ ?_ _); rotate_left; (focus (first | omega | (simp only [World.size_alloc, World.size_setCell, World.size_drew, World.heap_drewN]; first | done | omega)))) | ((with_reducible refine Below.setCell ?_ ?_ _); rotate_left; (focus (first | omega | (simp only [World.size_alloc, World.size_setCell, World.size_drew, World.heap_drewN]; first | done | omega)))) | (with_reducible refine below_drewN ?_ _) | (with_reducible refine Below.drew ?_) | ((with_reducible refine Below.trans ?_ (Below.mono (by assumption) ?_)); rotate_left; (focus (first | omega | (simp only [World.size_alloc, World.size_setCell, World.size_drew, World.heap_drewN]; first | done | omega)))))) hB) hc hm (by (focus (first | omega | (simp only [World.size_alloc, World.size_setCell, World.size_drew, World.heap_drewN]; first | done | omega))))).mono ?_; rintro e w1 ⟨rfl, hb1⟩; rw [H2.out]; obtain ⟨_hr1, _hr2⟩ := below_reads hb1; have _hz := Below.size hb1; (try simp only [World.size_alloc, World.size_setCell, World.size_drew, World.heap_drewN] at _hz))
      | (go_at_call 57; refine (heatKinksInOrder_any _ _ ks B _ (kinks_on h (n := w.heap.size) (by repeat (first | (with_reducible assumption) | (with_reducible exact Below.refl _ _) | ((with_reducible refine Below.alloc ?_ ?_ _); rotate_left; (focus (first | omega | (simp only [World.size_alloc, World.size_setCell, World.size_drew, World.heap_drewN]; first | done | omega)))) | ((with_reducible refine Below.setCell ?_ ?_ _); rotate_left; (focus (first | omega | (simp only [World.size_alloc, World.size_setCell, World.size_drew, World.heap_drewN]; first | done | omega)))) | (with_reducible refine below_drewN ?_ _) | (with_reducible refine Below.drew ?_) | ((with_reducible refine Below.trans ?_ (Below.mono (by assumption) ?_)); rotate_left; (focus (first | omega | (simp only [World.size_alloc, World.size_setCell, World.size_drew, World.heap_drewN]; first | done | omega)))))) hB) hc hm (by (focus (first | omega | (simp only [World.size_alloc, World.size_setCell, World.size_drew, World.heap_drewN]; first | done | omega)))) V).mono ?_; rintro e w2 ⟨rfl, hb2⟩; rw [H3.out]))
    go_ret
    exact ⟨ret_int E.out.symm, (by repeat (first | (with_reducible assumption) | (with_reducible exact Below.refl _ _) | ((with_reducible refine Below.alloc ?_ ?_ _); rotate_left; (focus (first | omega | (simp only [World.size_alloc, World.size_setCell, World.size_drew, World.heap_drewN]; first | done | omega)))) | ((with_reducible refine Below.setCell ?_ ?_ _); rotate_left; (focus (first | omega | (simp only [World.size_alloc, World.size_setCell, World.size_drew, World.heap_drewN]; first | done | omega)))) | (with_reducible refine below_drewN ?_ _) | (with_reducible refine Below.drew ?_) | ((with_reducible refine Below.trans ?_ (Below.mono (by assumption) ?_)); rotate_left; (focus (first | omega | (simp only [World.size_alloc, World.size_setCell, World.size_drew, World.heap_drewN]; first | done | omega))))))⟩
  · have E : Hid (wayErr ks = 0) := by simp only [Hid, wayErr]; rw [if_neg g1, if_neg (by simp [g2]), if_neg (by simp [g3])]
    have H3 := Lib.hid g3
    clear g1 g2 g3
    go_enter Try.func19, Try.ntmps19
    go_wp2_with (first
      | (go_at_call 56; refine (heatKinksInRange_any _ _ ks B _ (kinks_on h (n := w.heap.size) (by repeat (first | (with_reducible assumption) | (with_reducible exact Below.refl _ _) | ((with_reducible refine Below.alloc ?_ ?_ _); rotate_left; (focus (first | omega | (simp only [World.size_alloc, World.size_setCell, World.size_drew, World.heap_drewN]; first | done | omega)))) | ((with_reducible refine Below.setCell ?_ ?_ _); rotate_left; (focus (first | omega | (simp only [World.size_alloc, World.size_setCell, World.size_drew, World.heap_drewN]; first | done | omega)))) | (with_reducible refine below_drewN ?_ _) | (with_reducible refine Below.drew ?_) | ((with_reducible refine Below.trans ?_ (Below.mono (by assumption) ?_)); rotate_left; (focus (first | omega | (simp only [World.size_alloc, World.size_setCell, World.size_drew, World.heap_drewN]; first | done | omega)))))) hB) hc hm (by (focus (first | omega | (simp only [World.size_alloc, World.size_setCell, World.size_drew, World.heap_drewN]; first | done | omega))))).mono ?_; rintro e w1 ⟨rfl, hb1⟩; rw [H2.out]; obtain ⟨_hr1, _hr2⟩ := below_reads hb1; have _hz := Below.size hb1; (try simp only [World.size_alloc, World.size_setCell, World.size_drew, World.heap_drewN] at _hz))
      | (go_at_call 57; refine (heatKinksInOrder_any _ _ ks B _ (kinks_on h (n := w.heap.size) (by repeat (first | (with_reducible assumption) | (with_reducible exact Below.refl _ _) | ((with_reducible refine Below.alloc ?_ ?_ _); rotate_left; (focus (first | omega | (simp only [World.size_alloc, World.size_setCell, World.size_drew, World.heap_drewN]; first | done | omega)))) | ((with_reducible refine Below.setCell ?_ ?_ _); rotate_left; (focus (first | omega | (simp only [World.size_alloc, World.size_setCell, World.size_drew, World.heap_drewN]; first | done | omega)))) | (with_reducible refine below_drewN ?_ _) | (with_reducible refine Below.drew ?_) | ((with_reducible refine Below.trans ?_ (Below.mono (by assumption) ?_)); rotate_left; (focus (first | omega | (simp only [World.size_alloc, World.size_setCell, World.size_drew, World.heap_drewN]; first | done | omega)))))) hB) hc hm (by (focus (first | omega | (simp only [World.size_alloc, World.size_setCell, World.size_drew, World.heap_drewN]; first | done | omega)))) V).mono ?_; rintro e w2 ⟨rfl, hb2⟩; rw [H3.out]))
    go_ret
    exact ⟨ret_int E.out.symm, (by repeat (first | (with_reducible assumption) | (with_reducible exact Below.refl _ _) | ((with_reducible refine Below.alloc ?_ ?_ _); rotate_left; (focus (first | omega | (simp only [World.size_alloc, World.size_setCell, World.size_drew, World.heap_drewN]; first | done | omega)))) | ((with_reducible refine Below.setCell ?_ ?_ _); rotate_left; (focus (first | omega | (simp only [World.size_alloc, World.size_setCell, World.size_drew, World.heap_drewN]; first | done | omega)))) | (with_reducible refine below_drewN ?_ _) | (with_reducible refine Below.drew ?_) | ((with_reducible refine Below.trans ?_ (Below.mono (by assumption) ?_)); rotate_left; (focus (first | omega | (simp only [World.size_alloc, World.size_setCell, World.size_drew, World.heap_drewN]; first | done | omega))))))⟩
end Go.Proofs.Ytigpefjeelgfdaa

/-
  Walks of layer 1, fifth part: After; the reference's ways.
-/
namespace Go.Proofs.Ytigpefjeelgfdaa
open Go.RowKit

/-- What After hands back: a range and an error. -/
def aftV (ks : List Kink) (hard : Int) : Value :=
  if wayErr ks = 0 then (if hardB hard = true then .tuple #[.agg #[.int .i64 (aft ks hard).1, .int .i64 (aft ks hard).2], .int .i64 0] else .tuple #[.agg #[.int .i64 0, .int .i64 0], .int .i64 2])
  else .tuple #[.agg #[.int .i64 0, .int .i64 0], .int .i64 (wayErr ks)]
theorem pos_of_wayErr {ks : List Kink} (h : wayErr ks = 0) : 0 < ks.length := by
  unfold wayErr at h
  split at h
  · omega
  · omega

set_option maxHeartbeats 400000 in
theorem heatAfterX_any (A : Option Addr) (c : Nat) (ks : List Kink) (hard : Int) (B : Nat) (w : World) (h : KinksA w B A ks) (hc : ks.length ≤ c) (hm : c ≤ 9223372036854775807) (hB : B ≤ w.heap.size) :
    Calls Try.prog 17 #[.agg #[.slice A ks.length c], .int .i64 hard] w fun e w' => e = .returned (aftV ks hard) ∧ Below w.heap.size w w' := by
  by_cases g1 : wayErr ks = 0
  · have n0 := pos_of_wayErr g1
    cases g2 : hardB hard
    · have E : Hid (aftV ks hard = .tuple #[.agg #[.int .i64 0, .int .i64 0], .int .i64 2]) := by simp [Hid, aftV, g1, g2]
      have H1 := Lib.hid g1
      have H2 : Hid ([hard].all hardB = false) := by simp [Hid, g2]
      clear g1 g2
      go_enter Try.func17, Try.ntmps17
      go_wp2_with (first
        | (go_at_call 19; refine (heatCheckWay_any _ _ ks B _ (kinks_on h (n := w.heap.size) (by repeat (first | (with_reducible assumption) | (with_reducible exact Below.refl _ _) | ((with_reducible refine Below.alloc ?_ ?_ _); rotate_left; (focus (first | omega | (simp only [World.size_alloc, World.size_setCell, World.size_drew, World.heap_drewN]; first | done | omega)))) | ((with_reducible refine Below.setCell ?_ ?_ _); rotate_left; (focus (first | omega | (simp only [World.size_alloc, World.size_setCell, World.size_drew, World.heap_drewN]; first | done | omega)))) | (with_reducible refine below_drewN ?_ _) | (with_reducible refine Below.drew ?_) | ((with_reducible refine Below.trans ?_ (Below.mono (by assumption) ?_)); rotate_left; (focus (first | omega | (simp only [World.size_alloc, World.size_setCell, World.size_drew, World.heap_drewN]; first | done | omega)))))) hB) hc hm (by (focus (first | omega | (simp only [World.size_alloc, World.size_setCell, World.size_drew, World.heap_drewN]; first | done | omega))))).mono ?_; rintro e w1 ⟨rfl, hb1⟩; rw [H1.out]; obtain ⟨_hr1, _hr2⟩ := below_reads hb1; have _hz := Below.size hb1; (try simp only [World.size_alloc, World.size_setCell, World.size_drew, World.heap_drewN] at _hz); obtain ⟨_hr3, _hr4⟩ := below_reads (show Below w.heap.size w w1 from (by repeat (first | (with_reducible assumption) | (with_reducible exact Below.refl _ _) | ((with_reducible refine Below.alloc ?_ ?_ _); rotate_left; (focus (first | omega | (simp only [World.size_alloc, World.size_setCell, World.size_drew, World.heap_drewN]; first | done | omega)))) | ((with_reducible refine Below.setCell ?_ ?_ _); rotate_left; (focus (first | omega | (simp only [World.size_alloc, World.size_setCell, World.size_drew, World.heap_drewN]; first | done | omega)))) | (with_reducible refine below_drewN ?_ _) | (with_reducible refine Below.drew ?_) | ((with_reducible refine Below.trans ?_ (Below.mono (by assumption) ?_)); rotate_left; (focus (first | omega | (simp only [World.size_alloc, World.size_setCell, World.size_drew, World.heap_drewN]; first | done | omega))))))); have _q0 : w.heap.size < w1.heap.size := (by omega); have _q1 : w.heap.size + 1 < w1.heap.size := (by omega))
        | (go_at_call 53; refine (areHard_any _ [hard] _ _ (ints_box (g := w1.heap.size) (Box.new' (by (focus (first | omega | (simp only [World.size_alloc, World.size_setCell, World.size_drew, World.heap_drewN]; first | done | omega))))) (by simp) (by simp))).mono ?_; rintro e w' ⟨rfl, rfl⟩; rw [H2.out]))
      refine bodyPost_ret (v := .tuple #[.agg #[.int .i64 0, .int .i64 0], .int .i64 2]) (by simp [results, Try.results17, go_sem, *]) rfl ?_
      rw [E.out]
      exact ⟨rfl, (by repeat (first | (with_reducible assumption) | (with_reducible exact Below.refl _ _) | ((with_reducible refine Below.alloc ?_ ?_ _); rotate_left; (focus (first | omega | (simp only [World.size_alloc, World.size_setCell, World.size_drew, World.heap_drewN]; first | done | omega)))) | ((with_reducible refine Below.setCell ?_ ?_ _); rotate_left; (focus (first | omega | (simp only [World.size_alloc, World.size_setCell, World.size_drew, World.heap_drewN]; first | done | omega)))) | (with_reducible refine below_drewN ?_ _) | (with_reducible refine Below.drew ?_) | ((with_reducible refine Below.trans ?_ (Below.mono (by assumption) ?_)); rotate_left; (focus (first | omega | (simp only [World.size_alloc, World.size_setCell, World.size_drew, World.heap_drewN]; first | done | omega))))))⟩
    · have E : Hid (aftV ks hard = .tuple #[.agg #[.int .i64 (aft ks hard).1, .int .i64 (aft ks hard).2], .int .i64 0]) := by simp [Hid, aftV, g1, g2]
      have H1 := Lib.hid g1
      have H2 : Hid ([hard].all hardB = true) := by simp [Hid, g2]
      clear g1 g2
      go_enter Try.func17, Try.ntmps17
      go_wp2_with (first
        | (go_at_call 19; refine (heatCheckWay_any _ _ ks B _ (kinks_on h (n := w.heap.size) (by repeat (first | (with_reducible assumption) | (with_reducible exact Below.refl _ _) | ((with_reducible refine Below.alloc ?_ ?_ _); rotate_left; (focus (first | omega | (simp only [World.size_alloc, World.size_setCell, World.size_drew, World.heap_drewN]; first | done | omega)))) | ((with_reducible refine Below.setCell ?_ ?_ _); rotate_left; (focus (first | omega | (simp only [World.size_alloc, World.size_setCell, World.size_drew, World.heap_drewN]; first | done | omega)))) | (with_reducible refine below_drewN ?_ _) | (with_reducible refine Below.drew ?_) | ((with_reducible refine Below.trans ?_ (Below.mono (by assumption) ?_)); rotate_left; (focus (first | omega | (simp only [World.size_alloc, World.size_setCell, World.size_drew, World.heap_drewN]; first | done | omega)))))) hB) hc hm (by (focus (first | omega | (simp only [World.size_alloc, World.size_setCell, World.size_drew, World.heap_drewN]; first | done | omega))))).mono ?_; rintro e w1 ⟨rfl, hb1⟩; rw [H1.out]; obtain ⟨_hr1, _hr2⟩ := below_reads hb1; have _hz := Below.size hb1; (try simp only [World.size_alloc, World.size_setCell, World.size_drew, World.heap_drewN] at _hz); obtain ⟨_hr3, _hr4⟩ := below_reads (show Below w.heap.size w w1 from (by repeat (first | (with_reducible assumption) | (with_reducible exact Below.refl _ _) | ((with_reducible refine Below.alloc ?_ ?_ _); rotate_left; (focus (first | omega | (simp only [World.size_alloc, World.size_setCell, World.size_drew, World.heap_drewN]; first | done | omega)))) | ((with_reducible refine Below.setCell ?_ ?_ _); rotate_left; (focus (first | omega | (simp only [World.size_alloc, World.size_setCell, World.size_drew, World.heap_drewN]; first | done | omega)))) | (with_reducible refine below_drewN ?_ _) | (with_reducible refine Below.drew ?_) | ((with_reducible refine Below.trans ?_ (Below.mono (by assumption) ?_)); rotate_left; (focus (first | omega | (simp only [World.size_alloc, World.size_setCell, World.size_drew, World.heap_drewN]; first | done | omega))))))); have _q0 : w.heap.size < w1.heap.size := (by omega); have _q1 : w.heap.size + 1 < w1.heap.size := (by omega))
        | (go_at_call 53; refine (areHard_any _ [hard] _ _ (ints_box (g := w1.heap.size) (Box.new' (by (focus (first | omega | (simp only [World.size_alloc, World.size_setCell, World.size_drew, World.heap_drewN]; first | done | omega))))) (by simp) (by simp))).mono ?_; rintro e w' ⟨rfl, rfl⟩; rw [H2.out])
        | (go_at_call 54; refine (heatAfter_any _ _ ks hard B _ (kinks_on h (n := w.heap.size) (by repeat (first | (with_reducible assumption) | (with_reducible exact Below.refl _ _) | ((with_reducible refine Below.alloc ?_ ?_ _); rotate_left; (focus (first | omega | (simp only [World.size_alloc, World.size_setCell, World.size_drew, World.heap_drewN]; first | done | omega)))) | ((with_reducible refine Below.setCell ?_ ?_ _); rotate_left; (focus (first | omega | (simp only [World.size_alloc, World.size_setCell, World.size_drew, World.heap_drewN]; first | done | omega)))) | (with_reducible refine below_drewN ?_ _) | (with_reducible refine Below.drew ?_) | ((with_reducible refine Below.trans ?_ (Below.mono (by assumption) ?_)); rotate_left; (focus (first | omega | (simp only [World.size_alloc, World.size_setCell, World.size_drew, World.heap_drewN]; first | done | omega)))))) hB) hc hm (by (focus (first | omega | (simp only [World.size_alloc, World.size_setCell, World.size_drew, World.heap_drewN]; first | done | omega)))) n0).mono ?_; rintro e w2 ⟨rfl, hb2⟩; obtain ⟨_hr1, _hr2⟩ := below_reads hb2; have _hz := Below.size hb2; (try simp only [World.size_alloc, World.size_setCell, World.size_drew, World.heap_drewN] at _hz); obtain ⟨_hr3, _hr4⟩ := below_reads (show Below w.heap.size w w2 from (by repeat (first | (with_reducible assumption) | (with_reducible exact Below.refl _ _) | ((with_reducible refine Below.alloc ?_ ?_ _); rotate_left; (focus (first | omega | (simp only [World.size_alloc, World.size_setCell, World.size_drew, World.heap_drewN]; first | done | omega)))) | ((with_reducible refine Below.setCell ?_ ?_ _); rotate_left; (focus (first | omega | (simp only [World.size_alloc, World.size_setCell, World.size_drew, World.heap_drewN]; first | done | omega)))) | (with_reducible refine below_drewN ?_ _) | (with_reducible refine Below.drew ?_) | ((with_reducible refine Below.trans ?_ (Below.mono (by assumption) ?_)); rotate_left; (focus (first | omega | (simp only [World.size_alloc, World.size_setCell, World.size_drew, World.heap_drewN]; first | done | omega))))))); have _q0 : w.heap.size < w2.heap.size := (by omega); have _q1 : w.heap.size + 1 < w2.heap.size := (by omega)))
      refine bodyPost_ret (v := .tuple #[.agg #[.int .i64 (aft ks hard).1, .int .i64 (aft ks hard).2], .int .i64 0]) (by simp [results, Try.results17, go_sem, *]) rfl ?_
      rw [E.out]
      exact ⟨rfl, (by repeat (first | (with_reducible assumption) | (with_reducible exact Below.refl _ _) | ((with_reducible refine Below.alloc ?_ ?_ _); rotate_left; (focus (first | omega | (simp only [World.size_alloc, World.size_setCell, World.size_drew, World.heap_drewN]; first | done | omega)))) | ((with_reducible refine Below.setCell ?_ ?_ _); rotate_left; (focus (first | omega | (simp only [World.size_alloc, World.size_setCell, World.size_drew, World.heap_drewN]; first | done | omega)))) | (with_reducible refine below_drewN ?_ _) | (with_reducible refine Below.drew ?_) | ((with_reducible refine Below.trans ?_ (Below.mono (by assumption) ?_)); rotate_left; (focus (first | omega | (simp only [World.size_alloc, World.size_setCell, World.size_drew, World.heap_drewN]; first | done | omega))))))⟩
  · have E : Hid (aftV ks hard = .tuple #[.agg #[.int .i64 0, .int .i64 0], .int .i64 (wayErr ks)]) := by simp [Hid, aftV, g1]
    have n1 : (wayErr ks != 0) = true := by simp [g1]
    clear g1
    go_enter Try.func17, Try.ntmps17
    go_wp2_with (go_at_call 19; refine (heatCheckWay_any _ _ ks B _ (kinks_on h (n := w.heap.size) (by repeat (first | (with_reducible assumption) | (with_reducible exact Below.refl _ _) | ((with_reducible refine Below.alloc ?_ ?_ _); rotate_left; (focus (first | omega | (simp only [World.size_alloc, World.size_setCell, World.size_drew, World.heap_drewN]; first | done | omega)))) | ((with_reducible refine Below.setCell ?_ ?_ _); rotate_left; (focus (first | omega | (simp only [World.size_alloc, World.size_setCell, World.size_drew, World.heap_drewN]; first | done | omega)))) | (with_reducible refine below_drewN ?_ _) | (with_reducible refine Below.drew ?_) | ((with_reducible refine Below.trans ?_ (Below.mono (by assumption) ?_)); rotate_left; (focus (first | omega | (simp only [World.size_alloc, World.size_setCell, World.size_drew, World.heap_drewN]; first | done | omega)))))) hB) hc hm (by (focus (first | omega | (simp only [World.size_alloc, World.size_setCell, World.size_drew, World.heap_drewN]; first | done | omega))))).mono ?_; rintro e w1 ⟨rfl, hb1⟩; obtain ⟨_hr1, _hr2⟩ := below_reads hb1; have _hz := Below.size hb1; (try simp only [World.size_alloc, World.size_setCell, World.size_drew, World.heap_drewN] at _hz); obtain ⟨_hr3, _hr4⟩ := below_reads (show Below w.heap.size w w1 from (by repeat (first | (with_reducible assumption) | (with_reducible exact Below.refl _ _) | ((with_reducible refine Below.alloc ?_ ?_ _); rotate_left; (focus (first | omega | (simp only [World.size_alloc, World.size_setCell, World.size_drew, World.heap_drewN]; first | done | omega)))) | ((with_reducible refine Below.setCell ?_ ?_ _); rotate_left; (focus (first | omega | (simp only [World.size_alloc, World.size_setCell, World.size_drew, World.heap_drewN]; first | done | omega)))) | (with_reducible refine below_drewN ?_ _) | (with_reducible refine Below.drew ?_) | ((with_reducible refine Below.trans ?_ (Below.mono (by assumption) ?_)); rotate_left; (focus (first | omega | (simp only [World.size_alloc, World.size_setCell, World.size_drew, World.heap_drewN]; first | done | omega))))))); have _q0 : w.heap.size < w1.heap.size := (by omega); have _q1 : w.heap.size + 1 < w1.heap.size := (by omega))
    refine bodyPost_ret (v := .tuple #[.agg #[.int .i64 0, .int .i64 0], .int .i64 (wayErr ks)]) (by simp [results, Try.results17, go_sem, *]) rfl ?_
    rw [E.out]
    exact ⟨rfl, (by repeat (first | (with_reducible assumption) | (with_reducible exact Below.refl _ _) | ((with_reducible refine Below.alloc ?_ ?_ _); rotate_left; (focus (first | omega | (simp only [World.size_alloc, World.size_setCell, World.size_drew, World.heap_drewN]; first | done | omega)))) | ((with_reducible refine Below.setCell ?_ ?_ _); rotate_left; (focus (first | omega | (simp only [World.size_alloc, World.size_setCell, World.size_drew, World.heap_drewN]; first | done | omega)))) | (with_reducible refine below_drewN ?_ _) | (with_reducible refine Below.drew ?_) | ((with_reducible refine Below.trans ?_ (Below.mono (by assumption) ?_)); rotate_left; (focus (first | omega | (simp only [World.size_alloc, World.size_setCell, World.size_drew, World.heap_drewN]; first | done | omega))))))⟩

set_option maxHeartbeats 400000 in
theorem refAfter_any (A : Option Addr) (c : Nat) (ks : List Kink) (hard : Int) (B : Nat) (w : World) (h : KinksA w B A ks) (hc : ks.length ≤ c) (hm : c ≤ 9223372036854775807) (hB : B ≤ w.heap.size) (h0 : 0 < ks.length) :
    Calls Try.prog 55 #[.agg #[.slice A ks.length c], .int .i64 hard] w fun e w' => e = .returned (.agg #[.int .i64 (aft ks hard).1, .int .i64 (aft ks hard).2]) ∧ Below w.heap.size w w' := by
  obtain ⟨b, off, f0, x0, y0, rfl, hb, hx0, c0, c1, c2⟩ := kinksA h h0
  simp only [Nat.zero_mul, Nat.add_zero] at c0 c1 c2
  have hbw : b < w.heap.size := by omega
  go_enter Try.func55, Try.ntmps55
  go_wp2
  go_loopw [6] (fun i wr => ∃ (k : Nat) (lo hi : Int), k ≤ ks.length ∧ i = .int .i64 k ∧ Hid (aftTo ks hard k = (lo, hi)) ∧ Below w.heap.size w wr ∧
      Box wr (w.heap.size + 1 + 1) 33 #[.int .i64 lo, .int .i64 hi] ∧ Box wr (w.heap.size + 1) 33 #[.int .i64 0, .int .i64 0] ∧ Box wr w.heap.size 28 #[.slice (some ⟨b, off, none⟩) ks.length c])
    (fun i _ => ks.length - (intOf i).toNat)
  case atStart =>
    refine ⟨0, x0, y0, by omega, rfl, Lib.hid (by rw [aftTo_zero, kFst_of hx0]), (by repeat (first | (with_reducible assumption) | (with_reducible exact Below.refl _ _) | ((with_reducible refine Below.alloc ?_ ?_ _); rotate_left; (focus (first | omega | (simp only [World.size_alloc, World.size_setCell, World.size_drew, World.heap_drewN]; first | done | omega)))) | ((with_reducible refine Below.setCell ?_ ?_ _); rotate_left; (focus (first | omega | (simp only [World.size_alloc, World.size_setCell, World.size_drew, World.heap_drewN]; first | done | omega)))) | (with_reducible refine below_drewN ?_ _) | (with_reducible refine Below.drew ?_) | ((with_reducible refine Below.trans ?_ (Below.mono (by assumption) ?_)); rotate_left; (focus (first | omega | (simp only [World.size_alloc, World.size_setCell, World.size_drew, World.heap_drewN]; first | done | omega)))))), ?_, ?_, ?_⟩
    all_goals (refine Box.of_f ?_; repeat (first | ((with_reducible refine BoxF.done (by with_reducible assumption) ?_); rfl) | ((with_reducible refine BoxF.new ?_ ?_); (focus (first | omega | (simp only [World.size_alloc, World.size_setCell, World.size_drew, World.heap_drewN]; first | done | omega))); rfl) | ((with_reducible refine BoxF.alloc ?_ ?_); (focus (first | omega | (simp only [World.size_alloc, World.size_setCell, World.size_drew, World.heap_drewN]; first | done | omega)))) | (with_reducible refine BoxF.set ?_) | ((with_reducible refine BoxF.far ?_ ?_); ((try simp only []); omega)) | (with_reducible refine BoxF.drewN ?_) | (with_reducible refine BoxF.drew ?_) | ((with_reducible refine BoxF.below (by with_reducible assumption) ?_ ?_); (focus (first | omega | (simp only [World.size_alloc, World.size_setCell, World.size_drew, World.heap_drewN]; first | done | omega))))))
  case round =>
    obtain ⟨k, lo, hi, hk, rfl, H, hbl, bo, br, bw⟩ := hrel
    obtain ⟨o1, o2, o3, o4⟩ := bo.two
    obtain ⟨r1, r2, r3, r4⟩ := br.two
    obtain ⟨w1, w2⟩ := bw.one
    have hs1 := bo.lt
    by_cases hlt : k < ks.length
    · obtain ⟨b', off', f, x, y, e, hb', hx, d0, d1, d2⟩ := kinksA (kinks_on h hbl hB) hlt
      obtain ⟨rfl, rfl⟩ : b' = b ∧ off' = off := by simp at e; exact ⟨e.1.symm, e.2.symm⟩
      clear e
      have hbr : b' < wr.heap.size := by omega
      by_cases g : f ≤ hard
      · go_wp2
        go_roundw
        case rel =>
          refine ⟨k + 1, x, y, by omega, by go_num, Lib.hid (aftTo_yes hx g), (by repeat (first | (with_reducible assumption) | (with_reducible exact Below.refl _ _) | ((with_reducible refine Below.alloc ?_ ?_ _); rotate_left; (focus (first | omega | (simp only [World.size_alloc, World.size_setCell, World.size_drew, World.heap_drewN]; first | done | omega)))) | ((with_reducible refine Below.setCell ?_ ?_ _); rotate_left; (focus (first | omega | (simp only [World.size_alloc, World.size_setCell, World.size_drew, World.heap_drewN]; first | done | omega)))) | (with_reducible refine below_drewN ?_ _) | (with_reducible refine Below.drew ?_) | ((with_reducible refine Below.trans ?_ (Below.mono (by assumption) ?_)); rotate_left; (focus (first | omega | (simp only [World.size_alloc, World.size_setCell, World.size_drew, World.heap_drewN]; first | done | omega)))))), ?_, ?_, ?_⟩
          all_goals (refine Box.of_f ?_; repeat (first | ((with_reducible refine BoxF.done (by with_reducible assumption) ?_); rfl) | ((with_reducible refine BoxF.new ?_ ?_); (focus (first | omega | (simp only [World.size_alloc, World.size_setCell, World.size_drew, World.heap_drewN]; first | done | omega))); rfl) | ((with_reducible refine BoxF.alloc ?_ ?_); (focus (first | omega | (simp only [World.size_alloc, World.size_setCell, World.size_drew, World.heap_drewN]; first | done | omega)))) | (with_reducible refine BoxF.set ?_) | ((with_reducible refine BoxF.far ?_ ?_); ((try simp only []); omega)) | (with_reducible refine BoxF.drewN ?_) | (with_reducible refine BoxF.drew ?_) | ((with_reducible refine BoxF.below (by with_reducible assumption) ?_ ?_); (focus (first | omega | (simp only [World.size_alloc, World.size_setCell, World.size_drew, World.heap_drewN]; first | done | omega))))))
        case measure => simp [intOf]; omega
      · go_wp2
        go_roundw
        case rel =>
          refine ⟨k + 1, lo, hi, by omega, by go_num, Lib.hid ((aftTo_no hx g).trans H.out), (by repeat (first | (with_reducible assumption) | (with_reducible exact Below.refl _ _) | ((with_reducible refine Below.alloc ?_ ?_ _); rotate_left; (focus (first | omega | (simp only [World.size_alloc, World.size_setCell, World.size_drew, World.heap_drewN]; first | done | omega)))) | ((with_reducible refine Below.setCell ?_ ?_ _); rotate_left; (focus (first | omega | (simp only [World.size_alloc, World.size_setCell, World.size_drew, World.heap_drewN]; first | done | omega)))) | (with_reducible refine below_drewN ?_ _) | (with_reducible refine Below.drew ?_) | ((with_reducible refine Below.trans ?_ (Below.mono (by assumption) ?_)); rotate_left; (focus (first | omega | (simp only [World.size_alloc, World.size_setCell, World.size_drew, World.heap_drewN]; first | done | omega)))))), ?_, ?_, ?_⟩
          all_goals (refine Box.of_f ?_; repeat (first | ((with_reducible refine BoxF.done (by with_reducible assumption) ?_); rfl) | ((with_reducible refine BoxF.new ?_ ?_); (focus (first | omega | (simp only [World.size_alloc, World.size_setCell, World.size_drew, World.heap_drewN]; first | done | omega))); rfl) | ((with_reducible refine BoxF.alloc ?_ ?_); (focus (first | omega | (simp only [World.size_alloc, World.size_setCell, World.size_drew, World.heap_drewN]; first | done | omega)))) | (with_reducible refine BoxF.set ?_) | ((with_reducible refine BoxF.far ?_ ?_); ((try simp only []); omega)) | (with_reducible refine BoxF.drewN ?_) | (with_reducible refine BoxF.drew ?_) | ((with_reducible refine BoxF.below (by with_reducible assumption) ?_ ?_); (focus (first | omega | (simp only [World.size_alloc, World.size_setCell, World.size_drew, World.heap_drewN]; first | done | omega))))))
        case measure => simp [intOf]; omega
    · have e1 : aft ks hard = (lo, hi) := by rw [← H.out, show k = ks.length from by omega]; rfl
      have E1 := Lib.hid e1
      clear e1
      go_wp2
      refine bodyPost_ret (v := .agg #[.int .i64 lo, .int .i64 hi]) (by simp [results, Try.results55, go_sem, *]) rfl ?_
      rw [E1.out]
      exact ⟨rfl, (by repeat (first | (with_reducible assumption) | (with_reducible exact Below.refl _ _) | ((with_reducible refine Below.alloc ?_ ?_ _); rotate_left; (focus (first | omega | (simp only [World.size_alloc, World.size_setCell, World.size_drew, World.heap_drewN]; first | done | omega)))) | ((with_reducible refine Below.setCell ?_ ?_ _); rotate_left; (focus (first | omega | (simp only [World.size_alloc, World.size_setCell, World.size_drew, World.heap_drewN]; first | done | omega)))) | (with_reducible refine below_drewN ?_ _) | (with_reducible refine Below.drew ?_) | ((with_reducible refine Below.trans ?_ (Below.mono (by assumption) ?_)); rotate_left; (focus (first | omega | (simp only [World.size_alloc, World.size_setCell, World.size_drew, World.heap_drewN]; first | done | omega))))))⟩
end Go.Proofs.Ytigpefjeelgfdaa

/-
  Layer 1: steps, ways and recipes as they lie in memory; lists of errors. No program is named here.
-/
namespace Go.Proofs.Ytigpefjeelgfdaa
open Go.RowKit

abbrev WaysA (w : World) (B : Nat) (A : Option Addr) (l : List (List Kink)) : Prop := SLa (WayAt B) 1 w B A l
abbrev StepsA (w : World) (B : Nat) (A : Option Addr) (l : List (List (List Kink))) : Prop := SLa (StepAt B) 1 w B A l

theorem waysA {w : World} {B : Nat} {A : Option Addr} {l : List (List Kink)} (h : WaysA w B A l) {i : Nat} (hi : i < l.length) :
    ∃ b off A' c' ks, A = some ⟨b, off, none⟩ ∧ b < B ∧ Hid (l[i]? = some ks) ∧ w.cell? ⟨b, off + i, none⟩ = some (.slice A' ks.length c') ∧ ks.length ≤ c' ∧ c' ≤ 9223372036854775807 ∧ KinksA w B A' ks := by
  obtain ⟨b, off, x, h1, h2, h3, v, h4, A', c', h5, h6, h7, h8⟩ := SLa.at_ h hi
  subst h5
  exact ⟨b, off, A', c', x, h1, h2, h3, by simpa using h4, h6, h7, h8⟩
theorem stepsA {w : World} {B : Nat} {A : Option Addr} {l : List (List (List Kink))} (h : StepsA w B A l) {i : Nat} (hi : i < l.length) :
    ∃ b off A' c' ws, A = some ⟨b, off, none⟩ ∧ b < B ∧ Hid (l[i]? = some ws) ∧ w.cell? ⟨b, off + i, none⟩ = some (.slice A' ws.length c') ∧ ws.length ≤ c' ∧ c' ≤ 9223372036854775807 ∧ WaysA w B A' ws := by
  obtain ⟨b, off, x, h1, h2, h3, v, h4, A', c', h5, h6, h7, h8⟩ := SLa.at_ h hi
  subst h5
  exact ⟨b, off, A', c', x, h1, h2, h3, by simpa using h4, h6, h7, h8⟩
theorem ways_on {w w' : World} {B n : Nat} {A : Option Addr} {l : List (List Kink)} (h : WaysA w B A l) (hb : Below n w w') (hB : B ≤ n) : WaysA w' B A l :=
  SLa.keep h (Nat.le_refl _) fun _ _ _ hlt ⟨u, h1, h2⟩ => ⟨u, ((Same.of_below (hb.mono hB)).cell hlt _).trans h1, h2.keep (Same.of_below (hb.mono hB)) (Nat.le_refl _)⟩
theorem steps_on {w w' : World} {B n : Nat} {A : Option Addr} {l : List (List (List Kink))} (h : StepsA w B A l) (hb : Below n w w') (hB : B ≤ n) : StepsA w' B A l :=
  SLa.keep h (Nat.le_refl _) fun _ _ _ hlt ⟨u, h1, h2⟩ => ⟨u, ((Same.of_below (hb.mono hB)).cell hlt _).trans h1, h2.keep (Same.of_below (hb.mono hB)) (Nat.le_refl _)⟩

/-- The first number that is not 0. -/
def errs {α : Type} (p : α → Int) : List α → Int
  | [] => 0
  | x :: l => if p x = 0 then errs p l else p x
def zeroB {α : Type} (p : α → Int) (x : α) : Bool := decide (p x = 0)
theorem errs_append {α : Type} (p : α → Int) (a b : List α) : errs p (a ++ b) = if errs p a = 0 then errs p b else errs p a := by
  induction a with
  | nil => simp [errs]
  | cons x a ih =>
    simp only [List.cons_append, errs, ih]
    by_cases hx : p x = 0
    · simp [hx]
    · simp [hx]
theorem errs_zero {α : Type} {p : α → Int} {l : List α} : errs p l = 0 ↔ l.all (zeroB p) = true := by
  induction l with
  | nil => simp [errs]
  | cons x l ih =>
    simp only [errs, List.all_cons, Bool.and_eq_true, zeroB, decide_eq_true_eq]
    by_cases hx : p x = 0
    · simpa [hx] using ih
    · simp [hx]
theorem errs_at {α : Type} {p : α → Int} {l : List α} {k : Nat} {x : α} (h : Upto (zeroB p) l k) (hx : Hid (l[k]? = some x)) (hp : p x ≠ 0) : errs p l = p x := by
  have h0 : errs p (l.take k) = 0 := errs_zero.2 h
  have hk := getI hx.out
  have e : l = l.take k ++ (x :: l.drop (k + 1)) := by
    obtain ⟨hk', hx'⟩ := List.getElem?_eq_some_iff.1 hx.out
    rw [← hx']
    simp
  rw [e, errs_append, h0, if_pos rfl, errs, if_neg hp]

/-! ### a works -/
def barOk (r : Rg) : Bool := isHardB r.1 r.2
def waysMany (ws : List (List Kink)) : Bool := !(decide (ws.length < 1 ∨ 5 < ws.length))
def manyOk (x : Works) : Bool := !(decide (x.bars.length < 1 ∨ 6 < x.bars.length ∨ 6 < x.steps.length)) && x.steps.all waysMany
def worksErr (x : Works) : Int :=
  if manyOk x = false then 6 else if x.bars.all barOk = false then 2 else errs (errs wayErr) x.steps
theorem worksErr_many {x : Works} (h : manyOk x = false) : worksErr x = 6 := by rw [worksErr, if_pos h]
theorem worksErr_bar {x : Works} (h : manyOk x = true) (h2 : x.bars.all barOk = false) : worksErr x = 2 := by rw [worksErr, if_neg (by simp [h]), if_pos h2]
theorem worksErr_way {x : Works} (h : manyOk x = true) (h2 : x.bars.all barOk = true) : worksErr x = errs (errs wayErr) x.steps := by rw [worksErr, if_neg (by simp [h]), if_neg (by simp [h2])]
/-- A valid works. -/
def WorksOk (x : Works) : Prop := worksErr x = 0
theorem worksOk_iff {x : Works} : WorksOk x ↔ manyOk x = true ∧ x.bars.all barOk = true ∧ x.steps.all (zeroB (errs wayErr)) = true := by
  unfold WorksOk worksErr
  by_cases h1 : manyOk x = false
  · rw [if_pos h1]; simp [h1]
  · rw [if_neg h1]
    have h1' : manyOk x = true := by simpa using h1
    by_cases h2 : x.bars.all barOk = false
    · rw [if_pos h2]; simp [h2]
    · rw [if_neg h2]
      have h2' : x.bars.all barOk = true := by simpa using h2
      rw [errs_zero]
      simp [h1', h2']
end Go.Proofs.Ytigpefjeelgfdaa

/-
  Walks of layer 1, seventh part: valid works.
-/
namespace Go.Proofs.Ytigpefjeelgfdaa
open Go.RowKit

theorem waysMany_t {ws : List (List Kink)} (h1 : ¬ ws.length < 1) (h2 : ¬ 5 < ws.length) : waysMany ws = true := by unfold waysMany; rw [decide_eq_false (by omega)]; rfl
theorem waysMany_f {ws : List (List Kink)} (h : ws.length < 1 ∨ 5 < ws.length) : waysMany ws = false := by unfold waysMany; rw [decide_eq_true h]; rfl

set_option maxHeartbeats 400000 in
theorem countsInRange_any (Ab As : Option Addr) (cb cs : Nat) (x : Works) (B : Nat) (w : World) (hs : StepsA w B As x.steps) (hc : x.steps.length ≤ cs) (hm : cs ≤ 9223372036854775807) (hcb : x.bars.length ≤ cb) (hmb : cb ≤ 9223372036854775807) (hB : B ≤ w.heap.size) :
    Calls Try.prog 58 #[.agg #[.slice Ab x.bars.length cb, .slice As x.steps.length cs]] w fun e w' => e = .returned (.bool (manyOk x)) ∧ Below w.heap.size w w' := by
  by_cases g1 : x.bars.length < 1 ∨ 6 < x.bars.length ∨ 6 < x.steps.length
  · have R : Hid (manyOk x = false) := by simp only [Hid, manyOk, g1]; simp
    by_cases q1 : x.bars.length < 1
    · clear g1
      go_enter Try.func58, Try.ntmps58
      go_wp2_with fail
      go_ret
      exact ⟨ret_bool R.out.symm, (by repeat (first | (with_reducible assumption) | (with_reducible exact Below.refl _ _) | ((with_reducible refine Below.alloc ?_ ?_ _); rotate_left; (focus (first | omega | (simp only [World.size_alloc, World.size_setCell, World.size_drew, World.heap_drewN]; first | done | omega)))) | ((with_reducible refine Below.setCell ?_ ?_ _); rotate_left; (focus (first | omega | (simp only [World.size_alloc, World.size_setCell, World.size_drew, World.heap_drewN]; first | done | omega)))) | (with_reducible refine below_drewN ?_ _) | (with_reducible refine Below.drew ?_) | ((with_reducible refine Below.trans ?_ (Below.mono (by assumption) ?_)); rotate_left; (focus (first | omega | (simp only [World.size_alloc, World.size_setCell, World.size_drew, World.heap_drewN]; first | done | omega))))))⟩
    by_cases q2 : 6 < x.bars.length
    · clear g1
      go_enter Try.func58, Try.ntmps58
      go_wp2_with fail
      go_ret
      exact ⟨ret_bool R.out.symm, (by repeat (first | (with_reducible assumption) | (with_reducible exact Below.refl _ _) | ((with_reducible refine Below.alloc ?_ ?_ _); rotate_left; (focus (first | omega | (simp only [World.size_alloc, World.size_setCell, World.size_drew, World.heap_drewN]; first | done | omega)))) | ((with_reducible refine Below.setCell ?_ ?_ _); rotate_left; (focus (first | omega | (simp only [World.size_alloc, World.size_setCell, World.size_drew, World.heap_drewN]; first | done | omega)))) | (with_reducible refine below_drewN ?_ _) | (with_reducible refine Below.drew ?_) | ((with_reducible refine Below.trans ?_ (Below.mono (by assumption) ?_)); rotate_left; (focus (first | omega | (simp only [World.size_alloc, World.size_setCell, World.size_drew, World.heap_drewN]; first | done | omega))))))⟩
    have q3 : 6 < x.steps.length := by omega
    clear g1
    go_enter Try.func58, Try.ntmps58
    go_wp2_with fail
    go_ret
    exact ⟨ret_bool R.out.symm, (by repeat (first | (with_reducible assumption) | (with_reducible exact Below.refl _ _) | ((with_reducible refine Below.alloc ?_ ?_ _); rotate_left; (focus (first | omega | (simp only [World.size_alloc, World.size_setCell, World.size_drew, World.heap_drewN]; first | done | omega)))) | ((with_reducible refine Below.setCell ?_ ?_ _); rotate_left; (focus (first | omega | (simp only [World.size_alloc, World.size_setCell, World.size_drew, World.heap_drewN]; first | done | omega)))) | (with_reducible refine below_drewN ?_ _) | (with_reducible refine Below.drew ?_) | ((with_reducible refine Below.trans ?_ (Below.mono (by assumption) ?_)); rotate_left; (focus (first | omega | (simp only [World.size_alloc, World.size_setCell, World.size_drew, World.heap_drewN]; first | done | omega))))))⟩
  obtain ⟨q1, q2, q3⟩ : ¬ x.bars.length < 1 ∧ ¬ 6 < x.bars.length ∧ ¬ 6 < x.steps.length := by omega
  have E : Hid (manyOk x = x.steps.all waysMany) := by simp only [Hid, manyOk, g1]; simp
  clear g1
  go_enter Try.func58, Try.ntmps58
  go_wp2_with fail
  go_loopw [4, 24] (fun _ i wr => ∃ (k : Nat), k ≤ x.steps.length ∧ i = .int .i64 k ∧ Upto waysMany x.steps k ∧ Below w.heap.size w wr)
    (fun _ i _ => x.steps.length - (intOf i).toNat)
  case atStart =>
    exact ⟨0, by omega, rfl, Upto.zero _ _, (by repeat (first | (with_reducible assumption) | (with_reducible exact Below.refl _ _) | ((with_reducible refine Below.alloc ?_ ?_ _); rotate_left; (focus (first | omega | (simp only [World.size_alloc, World.size_setCell, World.size_drew, World.heap_drewN]; first | done | omega)))) | ((with_reducible refine Below.setCell ?_ ?_ _); rotate_left; (focus (first | omega | (simp only [World.size_alloc, World.size_setCell, World.size_drew, World.heap_drewN]; first | done | omega)))) | (with_reducible refine below_drewN ?_ _) | (with_reducible refine Below.drew ?_) | ((with_reducible refine Below.trans ?_ (Below.mono (by assumption) ?_)); rotate_left; (focus (first | omega | (simp only [World.size_alloc, World.size_setCell, World.size_drew, World.heap_drewN]; first | done | omega))))))⟩
  case round =>
    obtain ⟨k, hk, rfl, hup, hbl⟩ := hrel
    by_cases hlt : k < x.steps.length
    · obtain ⟨b, off, A', c', ws, rfl, hb, hx, d0, l1, l2, hws⟩ := stepsA (steps_on hs hbl hB) hlt
      have hz := hbl.size
      have hbr : b < wr.heap.size := by omega
      by_cases p1 : ws.length < 1
      · have R : Hid (manyOk x = false) := E.out.trans (Upto.fail hx (waysMany_f (.inl p1)))
        go_wp2_with fail
        go_ret
        exact ⟨ret_bool R.out.symm, (by repeat (first | (with_reducible assumption) | (with_reducible exact Below.refl _ _) | ((with_reducible refine Below.alloc ?_ ?_ _); rotate_left; (focus (first | omega | (simp only [World.size_alloc, World.size_setCell, World.size_drew, World.heap_drewN]; first | done | omega)))) | ((with_reducible refine Below.setCell ?_ ?_ _); rotate_left; (focus (first | omega | (simp only [World.size_alloc, World.size_setCell, World.size_drew, World.heap_drewN]; first | done | omega)))) | (with_reducible refine below_drewN ?_ _) | (with_reducible refine Below.drew ?_) | ((with_reducible refine Below.trans ?_ (Below.mono (by assumption) ?_)); rotate_left; (focus (first | omega | (simp only [World.size_alloc, World.size_setCell, World.size_drew, World.heap_drewN]; first | done | omega))))))⟩
      by_cases p2 : 5 < ws.length
      · have R : Hid (manyOk x = false) := E.out.trans (Upto.fail hx (waysMany_f (.inr p2)))
        go_wp2_with fail
        go_ret
        exact ⟨ret_bool R.out.symm, (by repeat (first | (with_reducible assumption) | (with_reducible exact Below.refl _ _) | ((with_reducible refine Below.alloc ?_ ?_ _); rotate_left; (focus (first | omega | (simp only [World.size_alloc, World.size_setCell, World.size_drew, World.heap_drewN]; first | done | omega)))) | ((with_reducible refine Below.setCell ?_ ?_ _); rotate_left; (focus (first | omega | (simp only [World.size_alloc, World.size_setCell, World.size_drew, World.heap_drewN]; first | done | omega)))) | (with_reducible refine below_drewN ?_ _) | (with_reducible refine Below.drew ?_) | ((with_reducible refine Below.trans ?_ (Below.mono (by assumption) ?_)); rotate_left; (focus (first | omega | (simp only [World.size_alloc, World.size_setCell, World.size_drew, World.heap_drewN]; first | done | omega))))))⟩
      have ok : Hid (waysMany ws = true) := waysMany_t p1 p2
      go_wp2_with fail
      go_roundw
      case rel => exact ⟨k + 1, by omega, by go_num, hup.succ hx ok.out, (by repeat (first | (with_reducible assumption) | (with_reducible exact Below.refl _ _) | ((with_reducible refine Below.alloc ?_ ?_ _); rotate_left; (focus (first | omega | (simp only [World.size_alloc, World.size_setCell, World.size_drew, World.heap_drewN]; first | done | omega)))) | ((with_reducible refine Below.setCell ?_ ?_ _); rotate_left; (focus (first | omega | (simp only [World.size_alloc, World.size_setCell, World.size_drew, World.heap_drewN]; first | done | omega)))) | (with_reducible refine below_drewN ?_ _) | (with_reducible refine Below.drew ?_) | ((with_reducible refine Below.trans ?_ (Below.mono (by assumption) ?_)); rotate_left; (focus (first | omega | (simp only [World.size_alloc, World.size_setCell, World.size_drew, World.heap_drewN]; first | done | omega))))))⟩
      case measure => simp [intOf]; omega
    · have R : Hid (manyOk x = true) := E.out.trans (hup.done (by omega))
      go_wp2_with fail
      go_ret
      exact ⟨ret_bool R.out.symm, (by repeat (first | (with_reducible assumption) | (with_reducible exact Below.refl _ _) | ((with_reducible refine Below.alloc ?_ ?_ _); rotate_left; (focus (first | omega | (simp only [World.size_alloc, World.size_setCell, World.size_drew, World.heap_drewN]; first | done | omega)))) | ((with_reducible refine Below.setCell ?_ ?_ _); rotate_left; (focus (first | omega | (simp only [World.size_alloc, World.size_setCell, World.size_drew, World.heap_drewN]; first | done | omega)))) | (with_reducible refine below_drewN ?_ _) | (with_reducible refine Below.drew ?_) | ((with_reducible refine Below.trans ?_ (Below.mono (by assumption) ?_)); rotate_left; (focus (first | omega | (simp only [World.size_alloc, World.size_setCell, World.size_drew, World.heap_drewN]; first | done | omega))))))⟩

set_option maxHeartbeats 1000000 in
theorem heatCheckWorks_any (Ab As : Option Addr) (cb cs : Nat) (x : Works) (B : Nat) (w : World) (hbs : RgsA w B Ab x.bars) (hs : StepsA w B As x.steps) (hc : x.steps.length ≤ cs) (hm : cs ≤ 9223372036854775807) (hcb : x.bars.length ≤ cb) (hmb : cb ≤ 9223372036854775807) (hB : B ≤ w.heap.size) :
    Calls Try.prog 21 #[.agg #[.slice Ab x.bars.length cb, .slice As x.steps.length cs]] w fun e w' => e = .returned (.int .i64 (worksErr x)) ∧ Below w.heap.size w w' := by
  cases g1 : manyOk x
  · have R : Hid (worksErr x = 6) := worksErr_many g1
    have G1 := Lib.hid g1
    clear g1
    go_enter Try.func21, Try.ntmps21
    go_wp2_with (go_at_call 58; refine (countsInRange_any _ _ _ _ x B _ (steps_on hs (n := w.heap.size) (by repeat (first | (with_reducible assumption) | (with_reducible exact Below.refl _ _) | ((with_reducible refine Below.alloc ?_ ?_ _); rotate_left; (focus (first | omega | (simp only [World.size_alloc, World.size_setCell, World.size_drew, World.heap_drewN]; first | done | omega)))) | ((with_reducible refine Below.setCell ?_ ?_ _); rotate_left; (focus (first | omega | (simp only [World.size_alloc, World.size_setCell, World.size_drew, World.heap_drewN]; first | done | omega)))) | (with_reducible refine below_drewN ?_ _) | (with_reducible refine Below.drew ?_) | ((with_reducible refine Below.trans ?_ (Below.mono (by assumption) ?_)); rotate_left; (focus (first | omega | (simp only [World.size_alloc, World.size_setCell, World.size_drew, World.heap_drewN]; first | done | omega)))))) hB) hc hm hcb hmb (by (focus (first | omega | (simp only [World.size_alloc, World.size_setCell, World.size_drew, World.heap_drewN]; first | done | omega))))).mono ?_; rintro e w1 ⟨rfl, hb1⟩; rw [G1.out]; obtain ⟨_hr1, _hr2⟩ := below_reads hb1; have _hz := Below.size hb1; (try simp only [World.size_alloc, World.size_setCell, World.size_drew, World.heap_drewN] at _hz); obtain ⟨_hr3, _hr4⟩ := below_reads (show Below w.heap.size w w1 from (by repeat (first | (with_reducible assumption) | (with_reducible exact Below.refl _ _) | ((with_reducible refine Below.alloc ?_ ?_ _); rotate_left; (focus (first | omega | (simp only [World.size_alloc, World.size_setCell, World.size_drew, World.heap_drewN]; first | done | omega)))) | ((with_reducible refine Below.setCell ?_ ?_ _); rotate_left; (focus (first | omega | (simp only [World.size_alloc, World.size_setCell, World.size_drew, World.heap_drewN]; first | done | omega)))) | (with_reducible refine below_drewN ?_ _) | (with_reducible refine Below.drew ?_) | ((with_reducible refine Below.trans ?_ (Below.mono (by assumption) ?_)); rotate_left; (focus (first | omega | (simp only [World.size_alloc, World.size_setCell, World.size_drew, World.heap_drewN]; first | done | omega))))))); have _q0 : w.heap.size < w1.heap.size := (by omega))
    go_ret
    exact ⟨ret_int R.out.symm, (by repeat (first | (with_reducible assumption) | (with_reducible exact Below.refl _ _) | ((with_reducible refine Below.alloc ?_ ?_ _); rotate_left; (focus (first | omega | (simp only [World.size_alloc, World.size_setCell, World.size_drew, World.heap_drewN]; first | done | omega)))) | ((with_reducible refine Below.setCell ?_ ?_ _); rotate_left; (focus (first | omega | (simp only [World.size_alloc, World.size_setCell, World.size_drew, World.heap_drewN]; first | done | omega)))) | (with_reducible refine below_drewN ?_ _) | (with_reducible refine Below.drew ?_) | ((with_reducible refine Below.trans ?_ (Below.mono (by assumption) ?_)); rotate_left; (focus (first | omega | (simp only [World.size_alloc, World.size_setCell, World.size_drew, World.heap_drewN]; first | done | omega))))))⟩
  have G1 := Lib.hid g1
  have bad2 : Hid (x.bars.all barOk = false → worksErr x = 2) := worksErr_bar g1
  have way : Hid (x.bars.all barOk = true → worksErr x = errs (errs wayErr) x.steps) := worksErr_way g1
  clear g1
  go_enter Try.func21, Try.ntmps21
  go_wp2_with (go_at_call 58; refine (countsInRange_any _ _ _ _ x B _ (steps_on hs (n := w.heap.size) (by repeat (first | (with_reducible assumption) | (with_reducible exact Below.refl _ _) | ((with_reducible refine Below.alloc ?_ ?_ _); rotate_left; (focus (first | omega | (simp only [World.size_alloc, World.size_setCell, World.size_drew, World.heap_drewN]; first | done | omega)))) | ((with_reducible refine Below.setCell ?_ ?_ _); rotate_left; (focus (first | omega | (simp only [World.size_alloc, World.size_setCell, World.size_drew, World.heap_drewN]; first | done | omega)))) | (with_reducible refine below_drewN ?_ _) | (with_reducible refine Below.drew ?_) | ((with_reducible refine Below.trans ?_ (Below.mono (by assumption) ?_)); rotate_left; (focus (first | omega | (simp only [World.size_alloc, World.size_setCell, World.size_drew, World.heap_drewN]; first | done | omega)))))) hB) hc hm hcb hmb (by (focus (first | omega | (simp only [World.size_alloc, World.size_setCell, World.size_drew, World.heap_drewN]; first | done | omega))))).mono ?_; rintro e w1 ⟨rfl, hb1⟩; rw [G1.out]; obtain ⟨_hr1, _hr2⟩ := below_reads hb1; have _hz := Below.size hb1; (try simp only [World.size_alloc, World.size_setCell, World.size_drew, World.heap_drewN] at _hz); obtain ⟨_hr3, _hr4⟩ := below_reads (show Below w.heap.size w w1 from (by repeat (first | (with_reducible assumption) | (with_reducible exact Below.refl _ _) | ((with_reducible refine Below.alloc ?_ ?_ _); rotate_left; (focus (first | omega | (simp only [World.size_alloc, World.size_setCell, World.size_drew, World.heap_drewN]; first | done | omega)))) | ((with_reducible refine Below.setCell ?_ ?_ _); rotate_left; (focus (first | omega | (simp only [World.size_alloc, World.size_setCell, World.size_drew, World.heap_drewN]; first | done | omega)))) | (with_reducible refine below_drewN ?_ _) | (with_reducible refine Below.drew ?_) | ((with_reducible refine Below.trans ?_ (Below.mono (by assumption) ?_)); rotate_left; (focus (first | omega | (simp only [World.size_alloc, World.size_setCell, World.size_drew, World.heap_drewN]; first | done | omega))))))); have _q0 : w.heap.size < w1.heap.size := (by omega))
  go_loopw [4, 16] (fun _ i wr => ∃ (k : Nat), k ≤ x.bars.length ∧ i = .int .i64 k ∧ Upto barOk x.bars k ∧ Below w.heap.size w wr ∧ Box wr w.heap.size 25 #[.slice Ab x.bars.length cb, .slice As x.steps.length cs])
    (fun _ i _ => x.bars.length - (intOf i).toNat)
  case atStart =>
    refine ⟨0, by omega, rfl, Upto.zero _ _, (by repeat (first | (with_reducible assumption) | (with_reducible exact Below.refl _ _) | ((with_reducible refine Below.alloc ?_ ?_ _); rotate_left; (focus (first | omega | (simp only [World.size_alloc, World.size_setCell, World.size_drew, World.heap_drewN]; first | done | omega)))) | ((with_reducible refine Below.setCell ?_ ?_ _); rotate_left; (focus (first | omega | (simp only [World.size_alloc, World.size_setCell, World.size_drew, World.heap_drewN]; first | done | omega)))) | (with_reducible refine below_drewN ?_ _) | (with_reducible refine Below.drew ?_) | ((with_reducible refine Below.trans ?_ (Below.mono (by assumption) ?_)); rotate_left; (focus (first | omega | (simp only [World.size_alloc, World.size_setCell, World.size_drew, World.heap_drewN]; first | done | omega)))))), ?_⟩
    (refine Box.of_f ?_; repeat (first | ((with_reducible refine BoxF.done (by with_reducible assumption) ?_); rfl) | ((with_reducible refine BoxF.new ?_ ?_); (focus (first | omega | (simp only [World.size_alloc, World.size_setCell, World.size_drew, World.heap_drewN]; first | done | omega))); rfl) | ((with_reducible refine BoxF.alloc ?_ ?_); (focus (first | omega | (simp only [World.size_alloc, World.size_setCell, World.size_drew, World.heap_drewN]; first | done | omega)))) | (with_reducible refine BoxF.set ?_) | ((with_reducible refine BoxF.far ?_ ?_); ((try simp only []); omega)) | (with_reducible refine BoxF.drewN ?_) | (with_reducible refine BoxF.drew ?_) | ((with_reducible refine BoxF.below (by with_reducible assumption) ?_ ?_); (focus (first | omega | (simp only [World.size_alloc, World.size_setCell, World.size_drew, World.heap_drewN]; first | done | omega))))))
  case round =>
    obtain ⟨k, hk, rfl, hup, hbl, bw⟩ := hrel
    obtain ⟨u1, u2, u3, u4⟩ := bw.two
    have hz := bw.lt
    by_cases hlt : k < x.bars.length
    · obtain ⟨b, off, lo, hi, rfl, hb, hx, d0, d1⟩ := rgsA (rgs_on hbs hbl hB) hlt
      have hbr : b < wr.heap.size := by omega
      rcases isHard_cases lo hi with g | g
      · have G := Lib.hid g
        clear g
        go_wp2_with (go_at_call 59; refine (isHardRange_any _ _ _).mono ?_; rintro e w2 ⟨rfl, hb2⟩; rw [G.out]; obtain ⟨_hr1, _hr2⟩ := below_reads hb2; have _hz := Below.size hb2; (try simp only [World.size_alloc, World.size_setCell, World.size_drew, World.heap_drewN] at _hz))
        go_roundw
        case rel =>
          refine ⟨k + 1, by omega, by go_num, hup.succ hx G.out, (by repeat (first | (with_reducible assumption) | (with_reducible exact Below.refl _ _) | ((with_reducible refine Below.alloc ?_ ?_ _); rotate_left; (focus (first | omega | (simp only [World.size_alloc, World.size_setCell, World.size_drew, World.heap_drewN]; first | done | omega)))) | ((with_reducible refine Below.setCell ?_ ?_ _); rotate_left; (focus (first | omega | (simp only [World.size_alloc, World.size_setCell, World.size_drew, World.heap_drewN]; first | done | omega)))) | (with_reducible refine below_drewN ?_ _) | (with_reducible refine Below.drew ?_) | ((with_reducible refine Below.trans ?_ (Below.mono (by assumption) ?_)); rotate_left; (focus (first | omega | (simp only [World.size_alloc, World.size_setCell, World.size_drew, World.heap_drewN]; first | done | omega)))))), ?_⟩
          (refine Box.of_f ?_; repeat (first | ((with_reducible refine BoxF.done (by with_reducible assumption) ?_); rfl) | ((with_reducible refine BoxF.new ?_ ?_); (focus (first | omega | (simp only [World.size_alloc, World.size_setCell, World.size_drew, World.heap_drewN]; first | done | omega))); rfl) | ((with_reducible refine BoxF.alloc ?_ ?_); (focus (first | omega | (simp only [World.size_alloc, World.size_setCell, World.size_drew, World.heap_drewN]; first | done | omega)))) | (with_reducible refine BoxF.set ?_) | ((with_reducible refine BoxF.far ?_ ?_); ((try simp only []); omega)) | (with_reducible refine BoxF.drewN ?_) | (with_reducible refine BoxF.drew ?_) | ((with_reducible refine BoxF.below (by with_reducible assumption) ?_ ?_); (focus (first | omega | (simp only [World.size_alloc, World.size_setCell, World.size_drew, World.heap_drewN]; first | done | omega))))))
        case measure => simp [intOf]; omega
      · have R : Hid (worksErr x = 2) := bad2.out (Upto.fail hx g)
        have G := Lib.hid g
        clear g
        go_wp2_with (go_at_call 59; refine (isHardRange_any _ _ _).mono ?_; rintro e w2 ⟨rfl, hb2⟩; rw [G.out]; obtain ⟨_hr1, _hr2⟩ := below_reads hb2; have _hz := Below.size hb2; (try simp only [World.size_alloc, World.size_setCell, World.size_drew, World.heap_drewN] at _hz))
        go_ret
        exact ⟨ret_int R.out.symm, (by repeat (first | (with_reducible assumption) | (with_reducible exact Below.refl _ _) | ((with_reducible refine Below.alloc ?_ ?_ _); rotate_left; (focus (first | omega | (simp only [World.size_alloc, World.size_setCell, World.size_drew, World.heap_drewN]; first | done | omega)))) | ((with_reducible refine Below.setCell ?_ ?_ _); rotate_left; (focus (first | omega | (simp only [World.size_alloc, World.size_setCell, World.size_drew, World.heap_drewN]; first | done | omega)))) | (with_reducible refine below_drewN ?_ _) | (with_reducible refine Below.drew ?_) | ((with_reducible refine Below.trans ?_ (Below.mono (by assumption) ?_)); rotate_left; (focus (first | omega | (simp only [World.size_alloc, World.size_setCell, World.size_drew, World.heap_drewN]; first | done | omega))))))⟩
    · have W : Hid (worksErr x = errs (errs wayErr) x.steps) := way.out (hup.done (by omega))
      clear hup
      go_wp2_with fail
      obtain ⟨wo, rfl⟩ : ∃ wo : World, wo = wr := ⟨_, rfl⟩
      go_loopw [27] (fun i wr => ∃ (k : Nat), k ≤ x.steps.length ∧ i = .int .i64 k ∧ Upto (zeroB (errs wayErr)) x.steps k ∧ Below w.heap.size w wr)
        (fun i _ => x.steps.length - (intOf i).toNat)
      case atStart =>
        exact ⟨0, by omega, rfl, Upto.zero _ _, (by repeat (first | (with_reducible assumption) | (with_reducible exact Below.refl _ _) | ((with_reducible refine Below.alloc ?_ ?_ _); rotate_left; (focus (first | omega | (simp only [World.size_alloc, World.size_setCell, World.size_drew, World.heap_drewN]; first | done | omega)))) | ((with_reducible refine Below.setCell ?_ ?_ _); rotate_left; (focus (first | omega | (simp only [World.size_alloc, World.size_setCell, World.size_drew, World.heap_drewN]; first | done | omega)))) | (with_reducible refine below_drewN ?_ _) | (with_reducible refine Below.drew ?_) | ((with_reducible refine Below.trans ?_ (Below.mono (by assumption) ?_)); rotate_left; (focus (first | omega | (simp only [World.size_alloc, World.size_setCell, World.size_drew, World.heap_drewN]; first | done | omega))))))⟩
      case round =>
        obtain ⟨k, hk, rfl, hup, hbl⟩ := hrel
        have hz := hbl.size
        by_cases hlt : k < x.steps.length
        · obtain ⟨b, off, A', c', ws, rfl, hb, hx, d0, l1, l2, hws⟩ := stepsA hs hlt
          have d1 := (hbl.cell (p := ⟨b, off + k, none⟩) (by simp only []; omega)).trans d0
          have hbr : b < wr.heap.size := by omega
          go_wp2_with fail
          obtain ⟨wp, rfl⟩ : ∃ wp : World, wp = wr := ⟨_, rfl⟩
          go_loopw [34] (fun i wr => ∃ (m : Nat), m ≤ ws.length ∧ i = .int .i64 m ∧ Upto (zeroB wayErr) ws m ∧ Below w.heap.size w wr)
            (fun i _ => ws.length - (intOf i).toNat)
          case atStart =>
            exact ⟨0, by omega, rfl, Upto.zero _ _, (by repeat (first | (with_reducible assumption) | (with_reducible exact Below.refl _ _) | ((with_reducible refine Below.alloc ?_ ?_ _); rotate_left; (focus (first | omega | (simp only [World.size_alloc, World.size_setCell, World.size_drew, World.heap_drewN]; first | done | omega)))) | ((with_reducible refine Below.setCell ?_ ?_ _); rotate_left; (focus (first | omega | (simp only [World.size_alloc, World.size_setCell, World.size_drew, World.heap_drewN]; first | done | omega)))) | (with_reducible refine below_drewN ?_ _) | (with_reducible refine Below.drew ?_) | ((with_reducible refine Below.trans ?_ (Below.mono (by assumption) ?_)); rotate_left; (focus (first | omega | (simp only [World.size_alloc, World.size_setCell, World.size_drew, World.heap_drewN]; first | done | omega))))))⟩
          case round =>
            obtain ⟨m, hm', rfl, hup2, hbl2⟩ := hrel
            have hz2 := hbl2.size
            by_cases hlt2 : m < ws.length
            · obtain ⟨b2, off2, A2, c2, ks, rfl, hb2, hx2, e0, l3, l4, hks⟩ := waysA hws hlt2
              have e1 := (hbl2.cell (p := ⟨b2, off2 + m, none⟩) (by simp only []; omega)).trans e0
              have hbr2 : b2 < wr.heap.size := by omega
              by_cases g : wayErr ks = 0
              · have G := Lib.hid g
                clear g
                go_wp2_with (go_at_call 19; refine (heatCheckWay_any _ _ ks B _ (kinks_on hks (n := w.heap.size) (by repeat (first | (with_reducible assumption) | (with_reducible exact Below.refl _ _) | ((with_reducible refine Below.alloc ?_ ?_ _); rotate_left; (focus (first | omega | (simp only [World.size_alloc, World.size_setCell, World.size_drew, World.heap_drewN]; first | done | omega)))) | ((with_reducible refine Below.setCell ?_ ?_ _); rotate_left; (focus (first | omega | (simp only [World.size_alloc, World.size_setCell, World.size_drew, World.heap_drewN]; first | done | omega)))) | (with_reducible refine below_drewN ?_ _) | (with_reducible refine Below.drew ?_) | ((with_reducible refine Below.trans ?_ (Below.mono (by assumption) ?_)); rotate_left; (focus (first | omega | (simp only [World.size_alloc, World.size_setCell, World.size_drew, World.heap_drewN]; first | done | omega)))))) hB) l3 l4 (by (focus (first | omega | (simp only [World.size_alloc, World.size_setCell, World.size_drew, World.heap_drewN]; first | done | omega))))).mono ?_; rintro e w2 ⟨rfl, hb2⟩; rw [G.out]; obtain ⟨_hr1, _hr2⟩ := below_reads hb2; have _hz := Below.size hb2; (try simp only [World.size_alloc, World.size_setCell, World.size_drew, World.heap_drewN] at _hz))
                go_roundw
                case rel =>
                  exact ⟨m + 1, by omega, by go_num, hup2.succ hx2 (by simp [zeroB, G.out]), (by repeat (first | (with_reducible assumption) | (with_reducible exact Below.refl _ _) | ((with_reducible refine Below.alloc ?_ ?_ _); rotate_left; (focus (first | omega | (simp only [World.size_alloc, World.size_setCell, World.size_drew, World.heap_drewN]; first | done | omega)))) | ((with_reducible refine Below.setCell ?_ ?_ _); rotate_left; (focus (first | omega | (simp only [World.size_alloc, World.size_setCell, World.size_drew, World.heap_drewN]; first | done | omega)))) | (with_reducible refine below_drewN ?_ _) | (with_reducible refine Below.drew ?_) | ((with_reducible refine Below.trans ?_ (Below.mono (by assumption) ?_)); rotate_left; (focus (first | omega | (simp only [World.size_alloc, World.size_setCell, World.size_drew, World.heap_drewN]; first | done | omega))))))⟩
                case measure => simp [intOf]; omega
              · have ne : errs wayErr ws = wayErr ks := errs_at hup2 hx2 g
                have R : Hid (worksErr x = wayErr ks) := W.out.trans ((errs_at hup hx (by rw [ne]; exact g)).trans ne)
                have g' : (wayErr ks != 0) = true := by simp [g]
                clear ne g
                go_wp2_with (go_at_call 19; refine (heatCheckWay_any _ _ ks B _ (kinks_on hks (n := w.heap.size) (by repeat (first | (with_reducible assumption) | (with_reducible exact Below.refl _ _) | ((with_reducible refine Below.alloc ?_ ?_ _); rotate_left; (focus (first | omega | (simp only [World.size_alloc, World.size_setCell, World.size_drew, World.heap_drewN]; first | done | omega)))) | ((with_reducible refine Below.setCell ?_ ?_ _); rotate_left; (focus (first | omega | (simp only [World.size_alloc, World.size_setCell, World.size_drew, World.heap_drewN]; first | done | omega)))) | (with_reducible refine below_drewN ?_ _) | (with_reducible refine Below.drew ?_) | ((with_reducible refine Below.trans ?_ (Below.mono (by assumption) ?_)); rotate_left; (focus (first | omega | (simp only [World.size_alloc, World.size_setCell, World.size_drew, World.heap_drewN]; first | done | omega)))))) hB) l3 l4 (by (focus (first | omega | (simp only [World.size_alloc, World.size_setCell, World.size_drew, World.heap_drewN]; first | done | omega))))).mono ?_; rintro e w2 ⟨rfl, hb2⟩; obtain ⟨_hr1, _hr2⟩ := below_reads hb2; have _hz := Below.size hb2; (try simp only [World.size_alloc, World.size_setCell, World.size_drew, World.heap_drewN] at _hz))
                go_ret
                exact ⟨ret_int R.out.symm, (by repeat (first | (with_reducible assumption) | (with_reducible exact Below.refl _ _) | ((with_reducible refine Below.alloc ?_ ?_ _); rotate_left; (focus (first | omega | (simp only [World.size_alloc, World.size_setCell, World.size_drew, World.heap_drewN]; first | done | omega)))) | ((with_reducible refine Below.setCell ?_ ?_ _); rotate_left; (focus (first | omega | (simp only [World.size_alloc, World.size_setCell, World.size_drew, World.heap_drewN]; first | done | omega)))) | (with_reducible refine below_drewN ?_ _) | (with_reducible refine Below.drew ?_) | ((with_reducible refine Below.trans ?_ (Below.mono (by assumption) ?_)); rotate_left; (focus (first | omega | (simp only [World.size_alloc, World.size_setCell, World.size_drew, World.heap_drewN]; first | done | omega))))))⟩
            · have ok : Hid (zeroB (errs wayErr) ws = true) := by simp only [Hid, zeroB, decide_eq_true_eq]; exact errs_zero.2 (hup2.done (by omega))
              go_wp2_with fail
              go_roundw
              case rel => exact ⟨k + 1, by omega, by go_num, hup.succ hx ok.out, (by repeat (first | (with_reducible assumption) | (with_reducible exact Below.refl _ _) | ((with_reducible refine Below.alloc ?_ ?_ _); rotate_left; (focus (first | omega | (simp only [World.size_alloc, World.size_setCell, World.size_drew, World.heap_drewN]; first | done | omega)))) | ((with_reducible refine Below.setCell ?_ ?_ _); rotate_left; (focus (first | omega | (simp only [World.size_alloc, World.size_setCell, World.size_drew, World.heap_drewN]; first | done | omega)))) | (with_reducible refine below_drewN ?_ _) | (with_reducible refine Below.drew ?_) | ((with_reducible refine Below.trans ?_ (Below.mono (by assumption) ?_)); rotate_left; (focus (first | omega | (simp only [World.size_alloc, World.size_setCell, World.size_drew, World.heap_drewN]; first | done | omega))))))⟩
              case measure => simp [intOf]; omega
        · have R : Hid (worksErr x = 0) := W.out.trans (errs_zero.2 (hup.done (by omega)))
          go_wp2_with fail
          go_ret
          exact ⟨ret_int R.out.symm, (by repeat (first | (with_reducible assumption) | (with_reducible exact Below.refl _ _) | ((with_reducible refine Below.alloc ?_ ?_ _); rotate_left; (focus (first | omega | (simp only [World.size_alloc, World.size_setCell, World.size_drew, World.heap_drewN]; first | done | omega)))) | ((with_reducible refine Below.setCell ?_ ?_ _); rotate_left; (focus (first | omega | (simp only [World.size_alloc, World.size_setCell, World.size_drew, World.heap_drewN]; first | done | omega)))) | (with_reducible refine below_drewN ?_ _) | (with_reducible refine Below.drew ?_) | ((with_reducible refine Below.trans ?_ (Below.mono (by assumption) ?_)); rotate_left; (focus (first | omega | (simp only [World.size_alloc, World.size_setCell, World.size_drew, World.heap_drewN]; first | done | omega))))))⟩
end Go.Proofs.Ytigpefjeelgfdaa

/-
  Layer 1, plain: recipes and histories.
-/
namespace Go.Proofs.Ytigpefjeelgfdaa
open Go.RowKit

def intAt (l : List Int) (i : Nat) : Int := l.getD i 0
theorem intAt_of {l : List Int} {i : Nat} {x : Int} (hx : Hid (l[i]? = some x)) : intAt l i = x := by simp [intAt, List.getD, hx.out]
def stepAt (l : List (List (List Kink))) (i : Nat) : List (List Kink) := l.getD i []
theorem stepAt_of {l : List (List (List Kink))} {i : Nat} {x : List (List Kink)} (hx : Hid (l[i]? = some x)) : stepAt l i = x := by simp [stepAt, List.getD, hx.out]
def kinksAt (l : List (List Kink)) (i : Nat) : List Kink := l.getD i []
theorem kinksAt_of {l : List (List Kink)} {i : Nat} {x : List Kink} (hx : Hid (l[i]? = some x)) : kinksAt l i = x := by simp [kinksAt, List.getD, hx.out]
def rgAt (l : List Rg) (i : Nat) : Rg := l.getD i (0, 0)
theorem rgAt_of {l : List Rg} {i : Nat} {x : Rg} (hx : Hid (l[i]? = some x)) : rgAt l i = x := by simp [rgAt, List.getD, hx.out]

/-- The way of a recipe for step i is one of its ways. -/
def wayIn (steps : List (List (List Kink))) (ways : List Int) (i : Nat) : Bool := decide (0 ≤ intAt ways i ∧ intAt ways i < (stepAt steps i).length)
/-- The errors of a works and a recipe. -/
def recErr (x : Works) (bar : Int) (ways : List Int) : Int :=
  if worksErr x ≠ 0 then worksErr x else if ways.length ≠ x.steps.length then 15 else if bar < 0 ∨ (x.bars.length : Int) ≤ bar then 3 else if allN (wayIn x.steps ways) ways.length = false then 3 else 0
structure RecOk (x : Works) (bar : Int) (ways : List Int) : Prop where
  works : worksErr x = 0
  len : ways.length = x.steps.length
  bar0 : 0 ≤ bar
  bar1 : bar < x.bars.length
  ways : ∀ i, i < ways.length → wayIn x.steps ways i = true
theorem recOk_iff {x : Works} {bar : Int} {ways : List Int} : recErr x bar ways = 0 ↔ RecOk x bar ways := by
  unfold recErr
  by_cases h1 : worksErr x = 0
  · rw [if_neg (by simpa using h1)]
    by_cases h2 : ways.length = x.steps.length
    · rw [if_neg (by simpa using h2)]
      by_cases h3 : bar < 0 ∨ (x.bars.length : Int) ≤ bar
      · rw [if_pos h3]
        exact ⟨fun h => absurd h (by decide), fun h => by have := h.bar0; have := h.bar1; omega⟩
      · rw [if_neg h3]
        by_cases h4 : allN (wayIn x.steps ways) ways.length = false
        · rw [if_pos h4]
          refine ⟨fun h => absurd h (by decide), fun h => ?_⟩
          have := allN_iff.2 h.ways
          rw [h4] at this
          cases this
        · rw [if_neg h4]
          refine ⟨fun _ => ⟨h1, h2, by omega, by omega, allN_iff.1 (by simpa using h4)⟩, fun _ => rfl⟩
    · rw [if_pos h2]
      exact ⟨fun h => absurd h (by decide), fun h => absurd h.len h2⟩
  · rw [if_pos h1]
    exact ⟨fun h => absurd h h1, fun h => absurd h.works h1⟩
theorem recErr_works {x : Works} {bar : Int} {ways : List Int} (h : worksErr x ≠ 0) : recErr x bar ways = worksErr x := by rw [recErr, if_pos h]
theorem recErr_len {x : Works} {bar : Int} {ways : List Int} (h : worksErr x = 0) (h2 : ways.length ≠ x.steps.length) : recErr x bar ways = 15 := by rw [recErr, if_neg (by simpa using h), if_pos h2]
theorem recErr_bar {x : Works} {bar : Int} {ways : List Int} (h : worksErr x = 0) (h2 : ways.length = x.steps.length) (h3 : bar < 0 ∨ (x.bars.length : Int) ≤ bar) : recErr x bar ways = 3 := by
  rw [recErr, if_neg (by simpa using h), if_neg (by simpa using h2), if_pos h3]
theorem recErr_way {x : Works} {bar : Int} {ways : List Int} {k : Nat} (h : worksErr x = 0) (h2 : ways.length = x.steps.length) (h3 : ¬ (bar < 0 ∨ (x.bars.length : Int) ≤ bar)) (hk : k < ways.length) (h4 : wayIn x.steps ways k = false) :
    recErr x bar ways = 3 := by
  rw [recErr, if_neg (by simpa using h), if_neg (by simpa using h2), if_neg h3, if_pos (UptoN.fail hk h4)]
theorem recErr_ok {x : Works} {bar : Int} {ways : List Int} (h : worksErr x = 0) (h2 : ways.length = x.steps.length) (h3 : ¬ (bar < 0 ∨ (x.bars.length : Int) ≤ bar)) (h4 : allN (wayIn x.steps ways) ways.length = true) :
    recErr x bar ways = 0 := by
  rw [recErr, if_neg (by simpa using h), if_neg (by simpa using h2), if_neg h3, if_neg (by simp [h4])]

/-- The way of a recipe for step i. -/
def wayOf (x : Works) (ways : List Int) (i : Nat) : List Kink := kinksAt (stepAt x.steps i) (intAt ways i).toNat
theorem wayErr_of {x : Works} (h : worksErr x = 0) {i j : Nat} {ws : List (List Kink)} {ks : List Kink} (h1 : x.steps[i]? = some ws) (h2 : ws[j]? = some ks) : wayErr ks = 0 := by
  obtain ⟨_, _, h3⟩ := worksOk_iff.1 h
  have h4 := List.all_eq_true.1 h3 ws (List.mem_of_getElem? h1)
  simp only [zeroB, decide_eq_true_eq] at h4
  have h5 := List.all_eq_true.1 (errs_zero.1 h4) ks (List.mem_of_getElem? h2)
  simpa [zeroB] using h5
theorem bar_of {x : Works} (h : worksErr x = 0) {i : Nat} {r : Rg} (h1 : x.bars[i]? = some r) : 0 ≤ r.1 ∧ r.1 ≤ r.2 ∧ r.2 ≤ 1000 := by
  obtain ⟨_, h3, _⟩ := worksOk_iff.1 h
  exact isHardB_iff.1 (List.all_eq_true.1 h3 r (List.mem_of_getElem? h1))

/-! ### histories -/
/-- In which range the hardness number i has to be. -/
def within (x : Works) (bar : Int) (ways hist : List Int) : Nat → Rg
  | 0 => rgAt x.bars bar.toNat
  | i + 1 => aft (wayOf x ways i) (intAt hist i)
def histOk (x : Works) (bar : Int) (ways hist : List Int) (i : Nat) : Bool := inB (intAt hist i) (within x bar ways hist i).1 (within x bar ways hist i).2
def histErr (x : Works) (bar : Int) (ways hist : List Int) : Int :=
  if recErr x bar ways ≠ 0 then recErr x bar ways else if hist.length ≠ x.steps.length + 1 then 15 else if allN (histOk x bar ways hist) hist.length = false then 16 else 0
theorem histErr_rec {x : Works} {bar : Int} {ways hist : List Int} (h : recErr x bar ways ≠ 0) : histErr x bar ways hist = recErr x bar ways := by rw [histErr, if_pos h]
theorem histErr_len {x : Works} {bar : Int} {ways hist : List Int} (h : recErr x bar ways = 0) (h2 : hist.length ≠ x.steps.length + 1) : histErr x bar ways hist = 15 := by rw [histErr, if_neg (by simpa using h), if_pos h2]
theorem histErr_no {x : Works} {bar : Int} {ways hist : List Int} {k : Nat} (h : recErr x bar ways = 0) (h2 : hist.length = x.steps.length + 1) (hk : k < hist.length) (h3 : histOk x bar ways hist k = false) : histErr x bar ways hist = 16 := by
  rw [histErr, if_neg (by simpa using h), if_neg (by simpa using h2), if_pos (UptoN.fail hk h3)]
theorem histErr_ok {x : Works} {bar : Int} {ways hist : List Int} (h : recErr x bar ways = 0) (h2 : hist.length = x.steps.length + 1) (h3 : allN (histOk x bar ways hist) hist.length = true) : histErr x bar ways hist = 0 := by
  rw [histErr, if_neg (by simpa using h), if_neg (by simpa using h2), if_neg (by simp [h3])]

/-- The way of step i, as it lies in memory. -/
theorem way_at {w : World} {B : Nat} {As Ar : Option Addr} {x : Works} {bar : Int} {ways : List Int} (hs : StepsA w B As x.steps) (hr : IntsA .i64 w B Ar ways) (ok : RecOk x bar ways) {i : Nat} (hi : i < x.steps.length) :
    ∃ (b1 o1 b2 o2 b3 o3 : Nat) (A1 A2 : Option Addr) (c1 c2 : Nat) (ws : List (List Kink)) (m : Nat) (ks : List Kink),
      As = some ⟨b1, o1, none⟩ ∧ Ar = some ⟨b2, o2, none⟩ ∧ A1 = some ⟨b3, o3, none⟩ ∧ b1 < B ∧ b2 < B ∧ b3 < B ∧ m < ws.length ∧
      w.cell? ⟨b1, o1 + i, none⟩ = some (.slice A1 ws.length c1) ∧ w.cell? ⟨b2, o2 + i, none⟩ = some (.int .i64 (m : Int)) ∧ w.cell? ⟨b3, o3 + m, none⟩ = some (.slice A2 ks.length c2) ∧
      ws.length ≤ c1 ∧ c1 ≤ 9223372036854775807 ∧ ks.length ≤ c2 ∧ c2 ≤ 9223372036854775807 ∧ KinksA w B A2 ks ∧ Hid (wayOf x ways i = ks) ∧ wayErr ks = 0 ∧ 0 < ks.length ∧ Hid (intAt ways i = (m : Int)) := by
  obtain ⟨b1, o1, A1, c1, ws, e1, hb1, hx1, d1, l1, l2, hws⟩ := stepsA hs hi
  obtain ⟨b2, o2, n, e2, hb2, hx2, d2⟩ := intsA hr (i := i) (by rw [ok.len]; exact hi)
  have hin := ok.ways i (by rw [ok.len]; exact hi)
  simp only [wayIn, intAt_of hx2, stepAt_of hx1, decide_eq_true_eq] at hin
  obtain ⟨m, rfl⟩ := Int.eq_ofNat_of_zero_le hin.1
  have hm : m < ws.length := by omega
  obtain ⟨b3, o3, A2, c2, ks, e3, hb3, hx3, d3, l3, l4, hks⟩ := waysA hws hm
  have he := wayErr_of ok.works hx1.out hx3.out
  refine ⟨b1, o1, b2, o2, b3, o3, A1, A2, c1, c2, ws, m, ks, e1, e2, e3, hb1, hb2, hb3, hm, d1, d2, d3, l1, l2, l3, l4, hks, ?_, he, ?_, Lib.hid (intAt_of hx2)⟩
  · simp only [Hid, wayOf, stepAt_of hx1, intAt_of hx2, Int.toNat_natCast, kinksAt_of hx3]
  · unfold wayErr at he
    split at he <;> omega
end Go.Proofs.Ytigpefjeelgfdaa

/-
  Walks of layer 1, ninth part: recipes.
-/
namespace Go.Proofs.Ytigpefjeelgfdaa
open Go.RowKit

/-- How a works and a recipe come in: as values, and as they lie in memory. -/
structure In (w : World) (B : Nat) (Ab As Ar : Option Addr) (cb cs cr : Nat) (x : Works) (ways : List Int) : Prop where
  bars : RgsA w B Ab x.bars
  steps : StepsA w B As x.steps
  rways : IntsA .i64 w B Ar ways
  cb1 : x.bars.length ≤ cb
  cb2 : cb ≤ 9223372036854775807
  cs1 : x.steps.length ≤ cs
  cs2 : cs ≤ 9223372036854775807
  cr1 : ways.length ≤ cr
  cr2 : cr ≤ 9223372036854775807
  le : B ≤ w.heap.size
theorem In.on {w w' : World} {B n : Nat} {Ab As Ar : Option Addr} {cb cs cr : Nat} {x : Works} {ways : List Int} (h : In w B Ab As Ar cb cs cr x ways) (hb : Below n w w') (hB : B ≤ n) : In w' B Ab As Ar cb cs cr x ways :=
  ⟨rgs_on h.bars hb hB, steps_on h.steps hb hB, ints_on h.rways hb hB, h.cb1, h.cb2, h.cs1, h.cs2, h.cr1, h.cr2, Nat.le_trans h.le hb.size⟩

set_option maxHeartbeats 1000000 in
theorem checkRecipe_any (Ab As Ar : Option Addr) (cb cs cr : Nat) (x : Works) (bar : Int) (ways : List Int) (B : Nat) (w : World) (h : In w B Ab As Ar cb cs cr x ways) :
    Calls Try.prog 60 #[.agg #[.slice Ab x.bars.length cb, .slice As x.steps.length cs], .agg #[.int .i64 bar, .slice Ar ways.length cr]] w
      fun e w' => e = .returned (.int .i64 (recErr x bar ways)) ∧ Below w.heap.size w w' := by
  obtain ⟨hb, hs, hw, k1, k2, k3, k4, k5, k6, hB⟩ := h
  by_cases g1 : worksErr x = 0
  · have G1 := Lib.hid g1
    by_cases g2 : ways.length = x.steps.length
    · have g2' : ((ways.length : Int) != (x.steps.length : Int)) = false := by simp [g2]
      have G2 := Lib.hid g2
      by_cases g3 : bar < 0 ∨ (x.bars.length : Int) ≤ bar
      · have R : Hid (recErr x bar ways = 3) := recErr_bar g1 g2 g3
        clear g1 g2
        by_cases q1 : bar < 0
        · clear g3
          go_enter Try.func60, Try.ntmps60
          go_wp2_with (go_at_call 21; refine (heatCheckWorks_any _ _ _ _ x B _ (rgs_on hb (n := w.heap.size) (by repeat (first | (with_reducible assumption) | (with_reducible exact Below.refl _ _) | ((with_reducible refine Below.alloc ?_ ?_ _); rotate_left; (focus (first | omega | (simp only [World.size_alloc, World.size_setCell, World.size_drew, World.heap_drewN]; first | done | omega)))) | ((with_reducible refine Below.setCell ?_ ?_ _); rotate_left; (focus (first | omega | (simp only [World.size_alloc, World.size_setCell, World.size_drew, World.heap_drewN]; first | done | omega)))) | (with_reducible refine below_drewN ?_ _) | (with_reducible refine Below.drew ?_) | ((with_reducible refine Below.trans ?_ (Below.mono (by assumption) ?_)); rotate_left; (focus (first | omega | (simp only [World.size_alloc, World.size_setCell, World.size_drew, World.heap_drewN]; first | done | omega)))))) hB) (steps_on hs (n := w.heap.size) (by repeat (first | (with_reducible assumption) | (with_reducible exact Below.refl _ _) | ((with_reducible refine Below.alloc ?_ ?_ _); rotate_left; (focus (first | omega | (simp only [World.size_alloc, World.size_setCell, World.size_drew, World.heap_drewN]; first | done | omega)))) | ((with_reducible refine Below.setCell ?_ ?_ _); rotate_left; (focus (first | omega | (simp only [World.size_alloc, World.size_setCell, World.size_drew, World.heap_drewN]; first | done | omega)))) | (with_reducible refine below_drewN ?_ _) | (with_reducible refine Below.drew ?_) | ((with_reducible refine Below.trans ?_ (Below.mono (by assumption) ?_)); rotate_left; (focus (first | omega | (simp only [World.size_alloc, World.size_setCell, World.size_drew, World.heap_drewN]; first | done | omega)))))) hB) k3 k4 k1 k2 (by (focus (first | omega | (simp only [World.size_alloc, World.size_setCell, World.size_drew, World.heap_drewN]; first | done | omega))))).mono ?_; rintro e w1 ⟨rfl, hb1⟩; rw [G1.out]; obtain ⟨_hr1, _hr2⟩ := below_reads hb1; have _hz := Below.size hb1; (try simp only [World.size_alloc, World.size_setCell, World.size_drew, World.heap_drewN] at _hz); obtain ⟨_hr3, _hr4⟩ := below_reads (show Below w.heap.size w w1 from (by repeat (first | (with_reducible assumption) | (with_reducible exact Below.refl _ _) | ((with_reducible refine Below.alloc ?_ ?_ _); rotate_left; (focus (first | omega | (simp only [World.size_alloc, World.size_setCell, World.size_drew, World.heap_drewN]; first | done | omega)))) | ((with_reducible refine Below.setCell ?_ ?_ _); rotate_left; (focus (first | omega | (simp only [World.size_alloc, World.size_setCell, World.size_drew, World.heap_drewN]; first | done | omega)))) | (with_reducible refine below_drewN ?_ _) | (with_reducible refine Below.drew ?_) | ((with_reducible refine Below.trans ?_ (Below.mono (by assumption) ?_)); rotate_left; (focus (first | omega | (simp only [World.size_alloc, World.size_setCell, World.size_drew, World.heap_drewN]; first | done | omega))))))); have _q0 : w.heap.size < w1.heap.size := (by omega); have _q1 : w.heap.size + 1 < w1.heap.size := (by omega))
          go_ret
          exact ⟨ret_int R.out.symm, (by repeat (first | (with_reducible assumption) | (with_reducible exact Below.refl _ _) | ((with_reducible refine Below.alloc ?_ ?_ _); rotate_left; (focus (first | omega | (simp only [World.size_alloc, World.size_setCell, World.size_drew, World.heap_drewN]; first | done | omega)))) | ((with_reducible refine Below.setCell ?_ ?_ _); rotate_left; (focus (first | omega | (simp only [World.size_alloc, World.size_setCell, World.size_drew, World.heap_drewN]; first | done | omega)))) | (with_reducible refine below_drewN ?_ _) | (with_reducible refine Below.drew ?_) | ((with_reducible refine Below.trans ?_ (Below.mono (by assumption) ?_)); rotate_left; (focus (first | omega | (simp only [World.size_alloc, World.size_setCell, World.size_drew, World.heap_drewN]; first | done | omega))))))⟩
        · have q2 : (x.bars.length : Int) ≤ bar := by omega
          clear g3
          go_enter Try.func60, Try.ntmps60
          go_wp2_with (go_at_call 21; refine (heatCheckWorks_any _ _ _ _ x B _ (rgs_on hb (n := w.heap.size) (by repeat (first | (with_reducible assumption) | (with_reducible exact Below.refl _ _) | ((with_reducible refine Below.alloc ?_ ?_ _); rotate_left; (focus (first | omega | (simp only [World.size_alloc, World.size_setCell, World.size_drew, World.heap_drewN]; first | done | omega)))) | ((with_reducible refine Below.setCell ?_ ?_ _); rotate_left; (focus (first | omega | (simp only [World.size_alloc, World.size_setCell, World.size_drew, World.heap_drewN]; first | done | omega)))) | (with_reducible refine below_drewN ?_ _) | (with_reducible refine Below.drew ?_) | ((with_reducible refine Below.trans ?_ (Below.mono (by assumption) ?_)); rotate_left; (focus (first | omega | (simp only [World.size_alloc, World.size_setCell, World.size_drew, World.heap_drewN]; first | done | omega)))))) hB) (steps_on hs (n := w.heap.size) (by repeat (first | (with_reducible assumption) | (with_reducible exact Below.refl _ _) | ((with_reducible refine Below.alloc ?_ ?_ _); rotate_left; (focus (first | omega | (simp only [World.size_alloc, World.size_setCell, World.size_drew, World.heap_drewN]; first | done | omega)))) | ((with_reducible refine Below.setCell ?_ ?_ _); rotate_left; (focus (first | omega | (simp only [World.size_alloc, World.size_setCell, World.size_drew, World.heap_drewN]; first | done | omega)))) | (with_reducible refine below_drewN ?_ _) | (with_reducible refine Below.drew ?_) | ((with_reducible refine Below.trans ?_ (Below.mono (by assumption) ?_)); rotate_left; (focus (first | omega | (simp only [World.size_alloc, World.size_setCell, World.size_drew, World.heap_drewN]; first | done | omega)))))) hB) k3 k4 k1 k2 (by (focus (first | omega | (simp only [World.size_alloc, World.size_setCell, World.size_drew, World.heap_drewN]; first | done | omega))))).mono ?_; rintro e w1 ⟨rfl, hb1⟩; rw [G1.out]; obtain ⟨_hr1, _hr2⟩ := below_reads hb1; have _hz := Below.size hb1; (try simp only [World.size_alloc, World.size_setCell, World.size_drew, World.heap_drewN] at _hz); obtain ⟨_hr3, _hr4⟩ := below_reads (show Below w.heap.size w w1 from (by repeat (first | (with_reducible assumption) | (with_reducible exact Below.refl _ _) | ((with_reducible refine Below.alloc ?_ ?_ _); rotate_left; (focus (first | omega | (simp only [World.size_alloc, World.size_setCell, World.size_drew, World.heap_drewN]; first | done | omega)))) | ((with_reducible refine Below.setCell ?_ ?_ _); rotate_left; (focus (first | omega | (simp only [World.size_alloc, World.size_setCell, World.size_drew, World.heap_drewN]; first | done | omega)))) | (with_reducible refine below_drewN ?_ _) | (with_reducible refine Below.drew ?_) | ((with_reducible refine Below.trans ?_ (Below.mono (by assumption) ?_)); rotate_left; (focus (first | omega | (simp only [World.size_alloc, World.size_setCell, World.size_drew, World.heap_drewN]; first | done | omega))))))); have _q0 : w.heap.size < w1.heap.size := (by omega); have _q1 : w.heap.size + 1 < w1.heap.size := (by omega))
          go_ret
          exact ⟨ret_int R.out.symm, (by repeat (first | (with_reducible assumption) | (with_reducible exact Below.refl _ _) | ((with_reducible refine Below.alloc ?_ ?_ _); rotate_left; (focus (first | omega | (simp only [World.size_alloc, World.size_setCell, World.size_drew, World.heap_drewN]; first | done | omega)))) | ((with_reducible refine Below.setCell ?_ ?_ _); rotate_left; (focus (first | omega | (simp only [World.size_alloc, World.size_setCell, World.size_drew, World.heap_drewN]; first | done | omega)))) | (with_reducible refine below_drewN ?_ _) | (with_reducible refine Below.drew ?_) | ((with_reducible refine Below.trans ?_ (Below.mono (by assumption) ?_)); rotate_left; (focus (first | omega | (simp only [World.size_alloc, World.size_setCell, World.size_drew, World.heap_drewN]; first | done | omega))))))⟩
      · obtain ⟨q1, q2⟩ : ¬ bar < 0 ∧ ¬ (x.bars.length : Int) ≤ bar := by omega
        have bad : Hid (∀ k, k < ways.length → wayIn x.steps ways k = false → recErr x bar ways = 3) := fun k hk h4 => recErr_way g1 g2 g3 hk h4
        have fin : Hid (allN (wayIn x.steps ways) ways.length = true → recErr x bar ways = 0) := recErr_ok g1 g2 g3
        clear g1 g2 g3
        go_enter Try.func60, Try.ntmps60
        go_wp2_with (go_at_call 21; refine (heatCheckWorks_any _ _ _ _ x B _ (rgs_on hb (n := w.heap.size) (by repeat (first | (with_reducible assumption) | (with_reducible exact Below.refl _ _) | ((with_reducible refine Below.alloc ?_ ?_ _); rotate_left; (focus (first | omega | (simp only [World.size_alloc, World.size_setCell, World.size_drew, World.heap_drewN]; first | done | omega)))) | ((with_reducible refine Below.setCell ?_ ?_ _); rotate_left; (focus (first | omega | (simp only [World.size_alloc, World.size_setCell, World.size_drew, World.heap_drewN]; first | done | omega)))) | (with_reducible refine below_drewN ?_ _) | (with_reducible refine Below.drew ?_) | ((with_reducible refine Below.trans ?_ (Below.mono (by assumption) ?_)); rotate_left; (focus (first | omega | (simp only [World.size_alloc, World.size_setCell, World.size_drew, World.heap_drewN]; first | done | omega)))))) hB) (steps_on hs (n := w.heap.size) (by repeat (first | (with_reducible assumption) | (with_reducible exact Below.refl _ _) | ((with_reducible refine Below.alloc ?_ ?_ _); rotate_left; (focus (first | omega | (simp only [World.size_alloc, World.size_setCell, World.size_drew, World.heap_drewN]; first | done | omega)))) | ((with_reducible refine Below.setCell ?_ ?_ _); rotate_left; (focus (first | omega | (simp only [World.size_alloc, World.size_setCell, World.size_drew, World.heap_drewN]; first | done | omega)))) | (with_reducible refine below_drewN ?_ _) | (with_reducible refine Below.drew ?_) | ((with_reducible refine Below.trans ?_ (Below.mono (by assumption) ?_)); rotate_left; (focus (first | omega | (simp only [World.size_alloc, World.size_setCell, World.size_drew, World.heap_drewN]; first | done | omega)))))) hB) k3 k4 k1 k2 (by (focus (first | omega | (simp only [World.size_alloc, World.size_setCell, World.size_drew, World.heap_drewN]; first | done | omega))))).mono ?_; rintro e w1 ⟨rfl, hb1⟩; rw [G1.out]; obtain ⟨_hr1, _hr2⟩ := below_reads hb1; have _hz := Below.size hb1; (try simp only [World.size_alloc, World.size_setCell, World.size_drew, World.heap_drewN] at _hz); obtain ⟨_hr3, _hr4⟩ := below_reads (show Below w.heap.size w w1 from (by repeat (first | (with_reducible assumption) | (with_reducible exact Below.refl _ _) | ((with_reducible refine Below.alloc ?_ ?_ _); rotate_left; (focus (first | omega | (simp only [World.size_alloc, World.size_setCell, World.size_drew, World.heap_drewN]; first | done | omega)))) | ((with_reducible refine Below.setCell ?_ ?_ _); rotate_left; (focus (first | omega | (simp only [World.size_alloc, World.size_setCell, World.size_drew, World.heap_drewN]; first | done | omega)))) | (with_reducible refine below_drewN ?_ _) | (with_reducible refine Below.drew ?_) | ((with_reducible refine Below.trans ?_ (Below.mono (by assumption) ?_)); rotate_left; (focus (first | omega | (simp only [World.size_alloc, World.size_setCell, World.size_drew, World.heap_drewN]; first | done | omega))))))); have _q0 : w.heap.size < w1.heap.size := (by omega); have _q1 : w.heap.size + 1 < w1.heap.size := (by omega))
        go_loopw [6, 7, 34] (fun _ _ i wr => ∃ (k : Nat), k ≤ ways.length ∧ i = .int .i64 k ∧ UptoN (wayIn x.steps ways) k ∧ Below w.heap.size w wr ∧ Box wr w.heap.size 25 #[.slice Ab x.bars.length cb, .slice As x.steps.length cs])
          (fun _ _ i _ => ways.length - (intOf i).toNat)
        case atStart =>
          refine ⟨0, by omega, rfl, UptoN.zero _, (by repeat (first | (with_reducible assumption) | (with_reducible exact Below.refl _ _) | ((with_reducible refine Below.alloc ?_ ?_ _); rotate_left; (focus (first | omega | (simp only [World.size_alloc, World.size_setCell, World.size_drew, World.heap_drewN]; first | done | omega)))) | ((with_reducible refine Below.setCell ?_ ?_ _); rotate_left; (focus (first | omega | (simp only [World.size_alloc, World.size_setCell, World.size_drew, World.heap_drewN]; first | done | omega)))) | (with_reducible refine below_drewN ?_ _) | (with_reducible refine Below.drew ?_) | ((with_reducible refine Below.trans ?_ (Below.mono (by assumption) ?_)); rotate_left; (focus (first | omega | (simp only [World.size_alloc, World.size_setCell, World.size_drew, World.heap_drewN]; first | done | omega)))))), ?_⟩
          (refine Box.of_f ?_; repeat (first | ((with_reducible refine BoxF.done (by with_reducible assumption) ?_); rfl) | ((with_reducible refine BoxF.new ?_ ?_); (focus (first | omega | (simp only [World.size_alloc, World.size_setCell, World.size_drew, World.heap_drewN]; first | done | omega))); rfl) | ((with_reducible refine BoxF.alloc ?_ ?_); (focus (first | omega | (simp only [World.size_alloc, World.size_setCell, World.size_drew, World.heap_drewN]; first | done | omega)))) | (with_reducible refine BoxF.set ?_) | ((with_reducible refine BoxF.far ?_ ?_); ((try simp only []); omega)) | (with_reducible refine BoxF.drewN ?_) | (with_reducible refine BoxF.drew ?_) | ((with_reducible refine BoxF.below (by with_reducible assumption) ?_ ?_); (focus (first | omega | (simp only [World.size_alloc, World.size_setCell, World.size_drew, World.heap_drewN]; first | done | omega))))))
        case round =>
          obtain ⟨k, hk, rfl, hup, hbl, bw⟩ := hrel
          obtain ⟨u1, u2, u3, u4⟩ := bw.two
          have hz := bw.lt
          by_cases hlt : k < ways.length
          · obtain ⟨b2, o2, n, rfl, hb2, hx2, d2⟩ := intsA (ints_on hw hbl hB) hlt
            have hlt' : k < x.steps.length := by have := G2.out; omega
            obtain ⟨b1, o1, A1, c1, ws, rfl, hb1', hx1, d1, l1, l2, hws⟩ := stepsA (steps_on hs hbl hB) hlt'
            have hbr1 : b1 < wr.heap.size := by omega
            have hbr2 : b2 < wr.heap.size := by omega
            by_cases p : 0 ≤ n ∧ n < (ws.length : Int)
            · have ok : Hid (wayIn x.steps ways k = true) := by simp only [Hid, wayIn, intAt_of hx2, stepAt_of hx1, decide_eq_true_eq]; exact p
              obtain ⟨p1, p2⟩ := p
              go_wp2_with fail
              go_roundw
              case rel =>
                refine ⟨k + 1, by omega, by go_num, hup.succ ok.out, (by repeat (first | (with_reducible assumption) | (with_reducible exact Below.refl _ _) | ((with_reducible refine Below.alloc ?_ ?_ _); rotate_left; (focus (first | omega | (simp only [World.size_alloc, World.size_setCell, World.size_drew, World.heap_drewN]; first | done | omega)))) | ((with_reducible refine Below.setCell ?_ ?_ _); rotate_left; (focus (first | omega | (simp only [World.size_alloc, World.size_setCell, World.size_drew, World.heap_drewN]; first | done | omega)))) | (with_reducible refine below_drewN ?_ _) | (with_reducible refine Below.drew ?_) | ((with_reducible refine Below.trans ?_ (Below.mono (by assumption) ?_)); rotate_left; (focus (first | omega | (simp only [World.size_alloc, World.size_setCell, World.size_drew, World.heap_drewN]; first | done | omega)))))), ?_⟩
                (refine Box.of_f ?_; repeat (first | ((with_reducible refine BoxF.done (by with_reducible assumption) ?_); rfl) | ((with_reducible refine BoxF.new ?_ ?_); (focus (first | omega | (simp only [World.size_alloc, World.size_setCell, World.size_drew, World.heap_drewN]; first | done | omega))); rfl) | ((with_reducible refine BoxF.alloc ?_ ?_); (focus (first | omega | (simp only [World.size_alloc, World.size_setCell, World.size_drew, World.heap_drewN]; first | done | omega)))) | (with_reducible refine BoxF.set ?_) | ((with_reducible refine BoxF.far ?_ ?_); ((try simp only []); omega)) | (with_reducible refine BoxF.drewN ?_) | (with_reducible refine BoxF.drew ?_) | ((with_reducible refine BoxF.below (by with_reducible assumption) ?_ ?_); (focus (first | omega | (simp only [World.size_alloc, World.size_setCell, World.size_drew, World.heap_drewN]; first | done | omega))))))
              case measure => simp [intOf]; omega
            · have R : Hid (recErr x bar ways = 3) := bad.out k hlt (by simp only [wayIn, intAt_of hx2, stepAt_of hx1, decide_eq_false_iff_not]; exact p)
              by_cases p1 : n < 0
              · clear p
                go_wp2_with fail
                go_ret
                exact ⟨ret_int R.out.symm, (by repeat (first | (with_reducible assumption) | (with_reducible exact Below.refl _ _) | ((with_reducible refine Below.alloc ?_ ?_ _); rotate_left; (focus (first | omega | (simp only [World.size_alloc, World.size_setCell, World.size_drew, World.heap_drewN]; first | done | omega)))) | ((with_reducible refine Below.setCell ?_ ?_ _); rotate_left; (focus (first | omega | (simp only [World.size_alloc, World.size_setCell, World.size_drew, World.heap_drewN]; first | done | omega)))) | (with_reducible refine below_drewN ?_ _) | (with_reducible refine Below.drew ?_) | ((with_reducible refine Below.trans ?_ (Below.mono (by assumption) ?_)); rotate_left; (focus (first | omega | (simp only [World.size_alloc, World.size_setCell, World.size_drew, World.heap_drewN]; first | done | omega))))))⟩
              · have p2 : (ws.length : Int) ≤ n := by omega
                clear p
                go_wp2_with fail
                go_ret
                exact ⟨ret_int R.out.symm, (by repeat (first | (with_reducible assumption) | (with_reducible exact Below.refl _ _) | ((with_reducible refine Below.alloc ?_ ?_ _); rotate_left; (focus (first | omega | (simp only [World.size_alloc, World.size_setCell, World.size_drew, World.heap_drewN]; first | done | omega)))) | ((with_reducible refine Below.setCell ?_ ?_ _); rotate_left; (focus (first | omega | (simp only [World.size_alloc, World.size_setCell, World.size_drew, World.heap_drewN]; first | done | omega)))) | (with_reducible refine below_drewN ?_ _) | (with_reducible refine Below.drew ?_) | ((with_reducible refine Below.trans ?_ (Below.mono (by assumption) ?_)); rotate_left; (focus (first | omega | (simp only [World.size_alloc, World.size_setCell, World.size_drew, World.heap_drewN]; first | done | omega))))))⟩
          · have R : Hid (recErr x bar ways = 0) := fin.out (hup.done (by omega))
            go_wp2_with fail
            go_ret
            exact ⟨ret_int R.out.symm, (by repeat (first | (with_reducible assumption) | (with_reducible exact Below.refl _ _) | ((with_reducible refine Below.alloc ?_ ?_ _); rotate_left; (focus (first | omega | (simp only [World.size_alloc, World.size_setCell, World.size_drew, World.heap_drewN]; first | done | omega)))) | ((with_reducible refine Below.setCell ?_ ?_ _); rotate_left; (focus (first | omega | (simp only [World.size_alloc, World.size_setCell, World.size_drew, World.heap_drewN]; first | done | omega)))) | (with_reducible refine below_drewN ?_ _) | (with_reducible refine Below.drew ?_) | ((with_reducible refine Below.trans ?_ (Below.mono (by assumption) ?_)); rotate_left; (focus (first | omega | (simp only [World.size_alloc, World.size_setCell, World.size_drew, World.heap_drewN]; first | done | omega))))))⟩
    · have g2' : ((ways.length : Int) != (x.steps.length : Int)) = true := by simp; omega
      have R : Hid (recErr x bar ways = 15) := recErr_len g1 g2
      clear g1 g2
      go_enter Try.func60, Try.ntmps60
      go_wp2_with (go_at_call 21; refine (heatCheckWorks_any _ _ _ _ x B _ (rgs_on hb (n := w.heap.size) (by repeat (first | (with_reducible assumption) | (with_reducible exact Below.refl _ _) | ((with_reducible refine Below.alloc ?_ ?_ _); rotate_left; (focus (first | omega | (simp only [World.size_alloc, World.size_setCell, World.size_drew, World.heap_drewN]; first | done | omega)))) | ((with_reducible refine Below.setCell ?_ ?_ _); rotate_left; (focus (first | omega | (simp only [World.size_alloc, World.size_setCell, World.size_drew, World.heap_drewN]; first | done | omega)))) | (with_reducible refine below_drewN ?_ _) | (with_reducible refine Below.drew ?_) | ((with_reducible refine Below.trans ?_ (Below.mono (by assumption) ?_)); rotate_left; (focus (first | omega | (simp only [World.size_alloc, World.size_setCell, World.size_drew, World.heap_drewN]; first | done | omega)))))) hB) (steps_on hs (n := w.heap.size) (by repeat (first | (with_reducible assumption) | (with_reducible exact Below.refl _ _) | ((with_reducible refine Below.alloc ?_ ?_ _); rotate_left; (focus (first | omega | (simp only [World.size_alloc, World.size_setCell, World.size_drew, World.heap_drewN]; first | done | omega)))) | ((with_reducible refine Below.setCell ?_ ?_ _); rotate_left; (focus (first | omega | (simp only [World.size_alloc, World.size_setCell, World.size_drew, World.heap_drewN]; first | done | omega)))) | (with_reducible refine below_drewN ?_ _) | (with_reducible refine Below.drew ?_) | ((with_reducible refine Below.trans ?_ (Below.mono (by assumption) ?_)); rotate_left; (focus (first | omega | (simp only [World.size_alloc, World.size_setCell, World.size_drew, World.heap_drewN]; first | done | omega)))))) hB) k3 k4 k1 k2 (by (focus (first | omega | (simp only [World.size_alloc, World.size_setCell, World.size_drew, World.heap_drewN]; first | done | omega))))).mono ?_; rintro e w1 ⟨rfl, hb1⟩; rw [G1.out]; obtain ⟨_hr1, _hr2⟩ := below_reads hb1; have _hz := Below.size hb1; (try simp only [World.size_alloc, World.size_setCell, World.size_drew, World.heap_drewN] at _hz); obtain ⟨_hr3, _hr4⟩ := below_reads (show Below w.heap.size w w1 from (by repeat (first | (with_reducible assumption) | (with_reducible exact Below.refl _ _) | ((with_reducible refine Below.alloc ?_ ?_ _); rotate_left; (focus (first | omega | (simp only [World.size_alloc, World.size_setCell, World.size_drew, World.heap_drewN]; first | done | omega)))) | ((with_reducible refine Below.setCell ?_ ?_ _); rotate_left; (focus (first | omega | (simp only [World.size_alloc, World.size_setCell, World.size_drew, World.heap_drewN]; first | done | omega)))) | (with_reducible refine below_drewN ?_ _) | (with_reducible refine Below.drew ?_) | ((with_reducible refine Below.trans ?_ (Below.mono (by assumption) ?_)); rotate_left; (focus (first | omega | (simp only [World.size_alloc, World.size_setCell, World.size_drew, World.heap_drewN]; first | done | omega))))))); have _q0 : w.heap.size < w1.heap.size := (by omega); have _q1 : w.heap.size + 1 < w1.heap.size := (by omega))
      go_ret
      exact ⟨ret_int R.out.symm, (by repeat (first | (with_reducible assumption) | (with_reducible exact Below.refl _ _) | ((with_reducible refine Below.alloc ?_ ?_ _); rotate_left; (focus (first | omega | (simp only [World.size_alloc, World.size_setCell, World.size_drew, World.heap_drewN]; first | done | omega)))) | ((with_reducible refine Below.setCell ?_ ?_ _); rotate_left; (focus (first | omega | (simp only [World.size_alloc, World.size_setCell, World.size_drew, World.heap_drewN]; first | done | omega)))) | (with_reducible refine below_drewN ?_ _) | (with_reducible refine Below.drew ?_) | ((with_reducible refine Below.trans ?_ (Below.mono (by assumption) ?_)); rotate_left; (focus (first | omega | (simp only [World.size_alloc, World.size_setCell, World.size_drew, World.heap_drewN]; first | done | omega))))))⟩
  · have R : Hid (recErr x bar ways = worksErr x) := recErr_works g1
    have g1' : (worksErr x != 0) = true := by simp [g1]
    clear g1
    go_enter Try.func60, Try.ntmps60
    go_wp2_with (go_at_call 21; refine (heatCheckWorks_any _ _ _ _ x B _ (rgs_on hb (n := w.heap.size) (by repeat (first | (with_reducible assumption) | (with_reducible exact Below.refl _ _) | ((with_reducible refine Below.alloc ?_ ?_ _); rotate_left; (focus (first | omega | (simp only [World.size_alloc, World.size_setCell, World.size_drew, World.heap_drewN]; first | done | omega)))) | ((with_reducible refine Below.setCell ?_ ?_ _); rotate_left; (focus (first | omega | (simp only [World.size_alloc, World.size_setCell, World.size_drew, World.heap_drewN]; first | done | omega)))) | (with_reducible refine below_drewN ?_ _) | (with_reducible refine Below.drew ?_) | ((with_reducible refine Below.trans ?_ (Below.mono (by assumption) ?_)); rotate_left; (focus (first | omega | (simp only [World.size_alloc, World.size_setCell, World.size_drew, World.heap_drewN]; first | done | omega)))))) hB) (steps_on hs (n := w.heap.size) (by repeat (first | (with_reducible assumption) | (with_reducible exact Below.refl _ _) | ((with_reducible refine Below.alloc ?_ ?_ _); rotate_left; (focus (first | omega | (simp only [World.size_alloc, World.size_setCell, World.size_drew, World.heap_drewN]; first | done | omega)))) | ((with_reducible refine Below.setCell ?_ ?_ _); rotate_left; (focus (first | omega | (simp only [World.size_alloc, World.size_setCell, World.size_drew, World.heap_drewN]; first | done | omega)))) | (with_reducible refine below_drewN ?_ _) | (with_reducible refine Below.drew ?_) | ((with_reducible refine Below.trans ?_ (Below.mono (by assumption) ?_)); rotate_left; (focus (first | omega | (simp only [World.size_alloc, World.size_setCell, World.size_drew, World.heap_drewN]; first | done | omega)))))) hB) k3 k4 k1 k2 (by (focus (first | omega | (simp only [World.size_alloc, World.size_setCell, World.size_drew, World.heap_drewN]; first | done | omega))))).mono ?_; rintro e w1 ⟨rfl, hb1⟩; obtain ⟨_hr1, _hr2⟩ := below_reads hb1; have _hz := Below.size hb1; (try simp only [World.size_alloc, World.size_setCell, World.size_drew, World.heap_drewN] at _hz); obtain ⟨_hr3, _hr4⟩ := below_reads (show Below w.heap.size w w1 from (by repeat (first | (with_reducible assumption) | (with_reducible exact Below.refl _ _) | ((with_reducible refine Below.alloc ?_ ?_ _); rotate_left; (focus (first | omega | (simp only [World.size_alloc, World.size_setCell, World.size_drew, World.heap_drewN]; first | done | omega)))) | ((with_reducible refine Below.setCell ?_ ?_ _); rotate_left; (focus (first | omega | (simp only [World.size_alloc, World.size_setCell, World.size_drew, World.heap_drewN]; first | done | omega)))) | (with_reducible refine below_drewN ?_ _) | (with_reducible refine Below.drew ?_) | ((with_reducible refine Below.trans ?_ (Below.mono (by assumption) ?_)); rotate_left; (focus (first | omega | (simp only [World.size_alloc, World.size_setCell, World.size_drew, World.heap_drewN]; first | done | omega))))))); have _q0 : w.heap.size < w1.heap.size := (by omega); have _q1 : w.heap.size + 1 < w1.heap.size := (by omega))
    go_ret
    exact ⟨ret_int R.out.symm, (by repeat (first | (with_reducible assumption) | (with_reducible exact Below.refl _ _) | ((with_reducible refine Below.alloc ?_ ?_ _); rotate_left; (focus (first | omega | (simp only [World.size_alloc, World.size_setCell, World.size_drew, World.heap_drewN]; first | done | omega)))) | ((with_reducible refine Below.setCell ?_ ?_ _); rotate_left; (focus (first | omega | (simp only [World.size_alloc, World.size_setCell, World.size_drew, World.heap_drewN]; first | done | omega)))) | (with_reducible refine below_drewN ?_ _) | (with_reducible refine Below.drew ?_) | ((with_reducible refine Below.trans ?_ (Below.mono (by assumption) ?_)); rotate_left; (focus (first | omega | (simp only [World.size_alloc, World.size_setCell, World.size_drew, World.heap_drewN]; first | done | omega))))))⟩
end Go.Proofs.Ytigpefjeelgfdaa

/-
  One row of memory is written, all else that was there stays. No program is named here.
-/
namespace Go.Proofs.Ytigpefjeelgfdaa
open Go.RowKit

section
variable {a b w w' : World} {row : Option Nat} {g : Nat}
theorem gb_refl (w : World) (row : Option Nat) : w.grownBy w row := ⟨rfl, rfl, rfl, Nat.le_refl _, fun _ _ _ => rfl⟩
theorem gb_alloc (h : a.grownBy w row) (o : Obj) : a.grownBy (w.alloc o) row :=
  ⟨h.os, h.tape, h.output, Nat.le_trans h.size (by simp), fun i hi hne => (Below.heap_alloc w o i (Nat.lt_of_lt_of_le hi h.size)).trans (h.block i hi hne)⟩
theorem gb_set (h : a.grownBy w (some g)) {p : Addr} (hp : p.block = g ∨ a.heap.size ≤ p.block) (u : Value) : a.grownBy (w.setCell p u) (some g) :=
  ⟨h.os, h.tape, h.output, by simpa [World.setCell] using h.size, fun i hi hne => (Below.heap_setCell w p u i (by
    rintro rfl
    rcases hp with hp | hp
    · exact hne (by rw [hp])
    · omega)).trans (h.block i hi hne)⟩
theorem gb_setNew (h : a.grownBy w row) {p : Addr} (hp : a.heap.size ≤ p.block) (u : Value) : a.grownBy (w.setCell p u) row :=
  ⟨h.os, h.tape, h.output, by simpa [World.setCell] using h.size, fun i hi hne => (Below.heap_setCell w p u i (by omega)).trans (h.block i hi hne)⟩
theorem gb_drew (h : a.grownBy w row) : a.grownBy w.drew row := ⟨h.os, h.tape, h.output, h.size, h.block⟩
theorem gb_drewN (h : a.grownBy w row) (n : Nat) : a.grownBy (w.drewN n) row := ⟨h.os, h.tape, h.output, h.size, h.block⟩
theorem gb_below (h : a.grownBy w row) (hb : Below w.heap.size w w') : a.grownBy w' row :=
  ⟨hb.os.trans h.os, hb.tape.trans h.tape, hb.output.trans h.output, Nat.le_trans h.size hb.size, fun i hi hn => (hb.block i (Nat.lt_of_lt_of_le hi h.size)).trans (h.block i hi hn)⟩
theorem gb_trans (h : a.grownBy w row) {row' : Option Nat} (k : w.grownBy w' row') (hr : row' = row ∨ ∀ g, row' = some g → a.heap.size ≤ g) : a.grownBy w' row :=
  ⟨k.os.trans h.os, k.tape.trans h.tape, k.output.trans h.output, Nat.le_trans h.size k.size, fun i hi hne => (k.block i (Nat.lt_of_lt_of_le hi h.size) (fun e => by
    rcases hr with rfl | hr
    · exact hne e
    · have := hr i e.symm; omega)).trans (h.block i hi hne)⟩
theorem gb_to_below {B : Nat} (h : a.grownBy w row) (hB : B ≤ a.heap.size) (hr : ∀ g, row = some g → B ≤ g) : Below B a w :=
  ⟨h.os, h.tape, h.output, h.size, fun k hk => h.block k (by omega) (fun e => by have := hr k e.symm; omega)⟩
theorem gb_of_below (h : Below a.heap.size a w) (row : Option Nat) : a.grownBy w row := ⟨h.os, h.tape, h.output, h.size, fun i hi _ => h.block i hi⟩
theorem Box.gb {t : TypeId} {cs : Array Value} (h : Box w g t cs) (k : w.grownBy w' row) (hne : some g ≠ row) : Box w' g t cs := (k.block g h.lt hne).trans h
theorem BoxF.gb {f : Obj → Obj} {o : Obj} (hb : w.grownBy w' row) (h : g < w.heap.size) (hne : some g ≠ row) (k : BoxF w g f o) : BoxF w' g f o := by
  unfold BoxF at k ⊢
  rw [hb.block g h hne]; exact k
theorem own_mono {base base' : Nat} {e : TypeId} {size n : Nat} {v : Value} {xs : List Value} (h : w.ownsRow base e size v n xs) (hb : base' ≤ base) : w.ownsRow base' e size v n xs := by
  obtain ⟨h1, h2⟩ := h
  refine ⟨h1, ?_⟩
  rcases h2 with h2 | ⟨g, cap, cur, hv, hg, r⟩
  · exact .inl h2
  · exact .inr ⟨g, cap, cur, hv, by omega, r⟩
theorem own_below {B base : Nat} {e : TypeId} {size n : Nat} {v : Value} {xs : List Value} (h : w.ownsRow base e size v n xs) (hb : Below B w w') (hg : ∀ g, v.ownBlock = some g → g < B) : w'.ownsRow base e size v n xs := by
  obtain ⟨h1, h2⟩ := h
  refine ⟨h1, ?_⟩
  rcases h2 with h2 | ⟨g, cap, cur, rfl, h3, h4, r⟩
  · exact .inl h2
  · exact .inr ⟨g, cap, cur, rfl, h3, (hb.block g (hg g rfl)).trans h4, r⟩
/-- .. all of what lies below the heap's end. -/
theorem own_later {base : Nat} {e : TypeId} {size n : Nat} {v : Value} {xs : List Value} (h : w.ownsRow base e size v n xs) (hb : Below w.heap.size w w') : w'.ownsRow base e size v n xs :=
  own_below h hb fun g hg => (h.lt g hg).2
/-- What lies in other blocks reads as it did. -/
theorem gb_reads (h : a.grownBy w (some g)) : (∀ b o, b < a.heap.size → b ≠ g → w.cell? ⟨b, o, none⟩ = a.cell? ⟨b, o, none⟩) ∧ (∀ b o, b < a.heap.size → b ≠ g → w.frozen? ⟨b, o, none⟩ = a.frozen? ⟨b, o, none⟩) :=
  ⟨fun b o hb hne => World.cell?_of_block (w := a) (a := ⟨b, o, none⟩) (h.block b hb (fun e => hne (by injection e))), fun b o hb hne => World.frozen?_of_block (w := a) (a := ⟨b, o, none⟩) (h.block b hb (fun e => hne (by injection e)))⟩
end
end Go.Proofs.Ytigpefjeelgfdaa

/-
  Walks of layer 1: rows of what can be had.
-/
namespace Go.Proofs.Ytigpefjeelgfdaa
open Go.RowKit

def bit (b : Bool) : Value := .int .u8 (if b then 1 else 0)
/-- The cells of a row: of each hardness whether it can be had. -/
def rowCells (p : Nat → Bool) : Array Value := ((List.range 1001).map fun j => bit (p j)).toArray

theorem rowCells_get (p : Nat → Bool) (j : Nat) : (rowCells p)[j]? = if j < 1001 then some (bit (p j)) else none := by
  simp only [rowCells, List.getElem?_toArray, List.getElem?_map, List.getElem?_range]
  by_cases h : j < 1001
  · simp [h]
  · simp [h]
theorem rowCells_set (p : Nat → Bool) (j : Nat) (b : Bool) (h : j < 1001) : (rowCells p).setIfInBounds j (bit b) = rowCells (fun i => if i = j then b else p i) := by
  apply Array.ext_getElem?
  intro i
  rw [Array.getElem?_setIfInBounds, rowCells_get, rowCells_get]
  have hs : (rowCells p).size = 1001 := by simp [rowCells]
  by_cases hij : j = i
  · subst hij
    simp [hs, h]
  · have : ¬ i = j := fun e => hij e.symm
    simp [hij, this]

set_option maxHeartbeats 400000 in
theorem fill_any (g : Nat) (t : TypeId) (p : Nat → Bool) (lo hi : Nat) (w : World) (hb : Box w g t (rowCells p)) (h1 : hi ≤ 1000) :
    Calls Try.prog 87 #[.pointer (some ⟨g, 0, none⟩), .agg #[.int .i64 lo, .int .i64 hi]] w
      fun e w' => e = .returned (.tuple #[]) ∧ w.grownBy w' (some g) ∧ Box w' g t (rowCells fun j => p j || decide (lo ≤ j ∧ j ≤ hi)) := by
  have hz := hb.lt
  go_enter Try.func87, Try.ntmps87
  go_wp2
  go_loopw [4] (fun i wr => ∃ (k : Nat), (k ≤ hi + 1 ∨ k = lo) ∧ lo ≤ k ∧ i = .int .i64 k ∧ w.grownBy wr (some g) ∧ Box wr w.heap.size 33 #[.int .i64 lo, .int .i64 hi] ∧ Box wr g t (rowCells fun j => p j || decide (lo ≤ j ∧ j < k)))
    (fun i _ => hi + 1 - (intOf i).toNat)
  case atStart =>
    have e : rowCells p = rowCells (fun j => p j || decide (lo ≤ j ∧ j < lo)) := by
      congr 1; funext j; have : ¬ (lo ≤ j ∧ j < lo) := by omega
      simp [this]
    refine ⟨lo, .inr rfl, by omega, rfl, (by repeat (first | (with_reducible assumption) | (with_reducible exact gb_refl _ _) | (with_reducible refine gb_alloc ?_ _) | ((with_reducible refine gb_set ?_ ?_ _); rotate_left; (focus (first | exact Or.inl rfl | (refine Or.inr ?_; (try simp only []); omega)))) | (with_reducible refine gb_drewN ?_ _) | (with_reducible refine gb_drew ?_) | (with_reducible refine gb_below ?_ (by assumption)))), ?_, ?_⟩
    · (refine Box.of_f ?_; repeat (first | ((with_reducible refine BoxF.done (by with_reducible assumption) ?_); rfl) | ((with_reducible refine BoxF.new ?_ ?_); (focus (first | omega | (simp only [World.size_alloc, World.size_setCell, World.size_drew, World.heap_drewN]; first | done | omega))); rfl) | ((with_reducible refine BoxF.alloc ?_ ?_); (focus (first | omega | (simp only [World.size_alloc, World.size_setCell, World.size_drew, World.heap_drewN]; first | done | omega)))) | (with_reducible refine BoxF.set ?_) | ((with_reducible refine BoxF.far ?_ ?_); ((try simp only []); omega)) | (with_reducible refine BoxF.drewN ?_) | (with_reducible refine BoxF.drew ?_) | ((with_reducible refine BoxF.below (by with_reducible assumption) ?_ ?_); (focus (first | omega | (simp only [World.size_alloc, World.size_setCell, World.size_drew, World.heap_drewN]; first | done | omega))))))
    · rw [← e]; (refine Box.of_f ?_; repeat (first | ((with_reducible refine BoxF.done (by with_reducible assumption) ?_); rfl) | ((with_reducible refine BoxF.new ?_ ?_); (focus (first | omega | (simp only [World.size_alloc, World.size_setCell, World.size_drew, World.heap_drewN]; first | done | omega))); rfl) | ((with_reducible refine BoxF.alloc ?_ ?_); (focus (first | omega | (simp only [World.size_alloc, World.size_setCell, World.size_drew, World.heap_drewN]; first | done | omega)))) | (with_reducible refine BoxF.set ?_) | ((with_reducible refine BoxF.far ?_ ?_); ((try simp only []); omega)) | (with_reducible refine BoxF.drewN ?_) | (with_reducible refine BoxF.drew ?_) | ((with_reducible refine BoxF.below (by with_reducible assumption) ?_ ?_); (focus (first | omega | (simp only [World.size_alloc, World.size_setCell, World.size_drew, World.heap_drewN]; first | done | omega))))))
  case round =>
    obtain ⟨k, hk, hk2, rfl, hg, bx, br⟩ := hrel
    obtain ⟨u1, u2, u3, u4⟩ := bx.two
    by_cases hlt : k ≤ hi
    · have c0 := br.cell k
      have c1 := br.frozen k
      rw [rowCells_get, if_pos (by omega)] at c0
      have hk3 : (k : Int) < 1001 := by omega
      have e : (rowCells fun j => p j || decide (lo ≤ j ∧ j < k)).setIfInBounds k (bit true) = rowCells (fun j => p j || decide (lo ≤ j ∧ j < k + 1)) := by
        rw [rowCells_set _ _ _ (by omega)]
        congr 1; funext j
        by_cases hj : j = k
        · subst hj
          have : lo ≤ j ∧ j < j + 1 := by omega
          simp [this]
        · have : (lo ≤ j ∧ j < k) ↔ (lo ≤ j ∧ j < k + 1) := by omega
          simp [hj, this]
      have E := Lib.hid e
      clear e
      go_wp2
      go_roundw
      case rel =>
        refine ⟨k + 1, by omega, by omega, by go_num, (by repeat (first | (with_reducible assumption) | (with_reducible exact gb_refl _ _) | (with_reducible refine gb_alloc ?_ _) | ((with_reducible refine gb_set ?_ ?_ _); rotate_left; (focus (first | exact Or.inl rfl | (refine Or.inr ?_; (try simp only []); omega)))) | (with_reducible refine gb_drewN ?_ _) | (with_reducible refine gb_drew ?_) | (with_reducible refine gb_below ?_ (by assumption)))), ?_, ?_⟩
        · (refine Box.of_f ?_; repeat (first | ((with_reducible refine BoxF.done (by with_reducible assumption) ?_); rfl) | ((with_reducible refine BoxF.new ?_ ?_); (focus (first | omega | (simp only [World.size_alloc, World.size_setCell, World.size_drew, World.heap_drewN]; first | done | omega))); rfl) | ((with_reducible refine BoxF.alloc ?_ ?_); (focus (first | omega | (simp only [World.size_alloc, World.size_setCell, World.size_drew, World.heap_drewN]; first | done | omega)))) | (with_reducible refine BoxF.set ?_) | ((with_reducible refine BoxF.far ?_ ?_); ((try simp only []); omega)) | (with_reducible refine BoxF.drewN ?_) | (with_reducible refine BoxF.drew ?_) | ((with_reducible refine BoxF.below (by with_reducible assumption) ?_ ?_); (focus (first | omega | (simp only [World.size_alloc, World.size_setCell, World.size_drew, World.heap_drewN]; first | done | omega))))))
        · rw [← E.out]; exact br.set_ k (bit true)
      case measure => simp [intOf]; omega
    · have e : (rowCells fun j => p j || decide (lo ≤ j ∧ j < k)) = rowCells (fun j => p j || decide (lo ≤ j ∧ j ≤ hi)) := by
        congr 1; funext j
        have : (lo ≤ j ∧ j < k) ↔ (lo ≤ j ∧ j ≤ hi) := by omega
        simp [this]
      have E := Lib.hid e
      clear e
      go_wp2
      go_end0
      exact ⟨rfl, hg, E.out ▸ br⟩

/-- A row that lies at block b from off on. -/
def RowAt (w : World) (b off : Nat) (p : Nat → Bool) : Prop := ∀ j, j < 1001 → w.cell? ⟨b, off + j, none⟩ = some (bit (p j))
theorem RowAt.of_box {w : World} {g : Nat} {t : TypeId} {p : Nat → Bool} (h : Box w g t (rowCells p)) : RowAt w g 0 p := by
  intro j hj
  have := h.cell (0 + j)
  rw [rowCells_get] at this
  simpa [hj] using this
theorem RowAt.on {w w' : World} {b off n : Nat} {p : Nat → Bool} (h : RowAt w b off p) (hb : Below n w w') (hB : b < n) : RowAt w' b off p :=
  fun j hj => (hb.cell (p := ⟨b, off + j, none⟩) hB).trans (h j hj)

set_option maxHeartbeats 400000 in
theorem holds_any (b off : Nat) (p : Nat → Bool) (k : Nat) (w : World) (h : RowAt w b off p) (hk : k < 1001) :
    Calls Try.prog 105 #[.pointer (some ⟨b, off, none⟩), .int .i64 k] w fun e w' => e = .returned (.bool (p k)) ∧ w = w' := by
  have hk3 : (k : Int) < 1001 := by omega
  have c := h k hk
  cases hp : p k
  · rw [hp] at c
    have c' : w.cell? ⟨b, off + k, none⟩ = some (.int .u8 0) := c
    clear c hp
    go_enter Try.func105, Try.ntmps105
    go_wp2
    go_ret
    exact ⟨rfl, rfl⟩
  · rw [hp] at c
    have c' : w.cell? ⟨b, off + k, none⟩ = some (.int .u8 1) := c
    clear c hp
    go_enter Try.func105, Try.ntmps105
    go_wp2
    go_ret
    exact ⟨rfl, rfl⟩

/-- The least place of the range that is set, or -1. -/
def FirstIs (p : Nat → Bool) (lo hi : Nat) (r : Int) : Prop :=
  (r = -1 ∧ ∀ j, lo ≤ j → j ≤ hi → p j = false) ∨ (∃ j : Nat, r = j ∧ lo ≤ j ∧ j ≤ hi ∧ p j = true ∧ ∀ i, lo ≤ i → i < j → p i = false)
def RetFirst (p : Nat → Bool) (lo hi : Nat) (B : Nat) (w : World) (e : Ending) (w' : World) : Prop := ∃ r : Int, e = .returned (.int .i64 r) ∧ FirstIs p lo hi r ∧ Below B w w'
def NoneBefore (p : Nat → Bool) (lo k : Nat) : Prop := ∀ i, lo ≤ i → i < k → p i = false

set_option maxHeartbeats 400000 in
theorem first_any (b off : Nat) (p : Nat → Bool) (lo hi : Nat) (w : World) (h : RowAt w b off p) (hb : b < w.heap.size) (h1 : hi ≤ 1000) :
    Calls Try.prog 99 #[.pointer (some ⟨b, off, none⟩), .agg #[.int .i64 lo, .int .i64 hi]] w (RetFirst p lo hi w.heap.size w) := by
  go_enter Try.func99, Try.ntmps99
  go_wp2
  go_step3
  go_wp2
  go_step3
  go_wp2
  go_loopw [5, 6] (fun f i wr => ∃ (k : Nat), f = .int .i64 (-1) ∧ lo ≤ k ∧ (k ≤ hi + 1 ∨ k = lo) ∧ i = .int .i64 k ∧ NoneBefore p lo k ∧ Below w.heap.size w wr ∧ Box wr w.heap.size 33 #[.int .i64 lo, .int .i64 hi])
    (fun _ i _ => hi + 1 - (intOf i).toNat)
  case atStart =>
    refine ⟨lo, rfl, by omega, .inr rfl, rfl, fun i h1 h2 => absurd h2 (by omega), (by repeat (first | (with_reducible assumption) | (with_reducible exact Below.refl _ _) | ((with_reducible refine Below.alloc ?_ ?_ _); rotate_left; (focus (first | omega | (simp only [World.size_alloc, World.size_setCell, World.size_drew, World.heap_drewN]; first | done | omega)))) | ((with_reducible refine Below.setCell ?_ ?_ _); rotate_left; (focus (first | omega | (simp only [World.size_alloc, World.size_setCell, World.size_drew, World.heap_drewN]; first | done | omega)))) | (with_reducible refine below_drewN ?_ _) | (with_reducible refine Below.drew ?_) | ((with_reducible refine Below.trans ?_ (Below.mono (by assumption) ?_)); rotate_left; (focus (first | omega | (simp only [World.size_alloc, World.size_setCell, World.size_drew, World.heap_drewN]; first | done | omega)))))), ?_⟩
    (refine Box.of_f ?_; repeat (first | ((with_reducible refine BoxF.done (by with_reducible assumption) ?_); rfl) | ((with_reducible refine BoxF.new ?_ ?_); (focus (first | omega | (simp only [World.size_alloc, World.size_setCell, World.size_drew, World.heap_drewN]; first | done | omega))); rfl) | ((with_reducible refine BoxF.alloc ?_ ?_); (focus (first | omega | (simp only [World.size_alloc, World.size_setCell, World.size_drew, World.heap_drewN]; first | done | omega)))) | (with_reducible refine BoxF.set ?_) | ((with_reducible refine BoxF.far ?_ ?_); ((try simp only []); omega)) | (with_reducible refine BoxF.drewN ?_) | (with_reducible refine BoxF.drew ?_) | ((with_reducible refine BoxF.below (by with_reducible assumption) ?_ ?_); (focus (first | omega | (simp only [World.size_alloc, World.size_setCell, World.size_drew, World.heap_drewN]; first | done | omega))))))
  case round =>
    obtain ⟨k, rfl, hk, hk2, rfl, hn, hbl, bx⟩ := hrel
    obtain ⟨u1, u2, u3, u4⟩ := bx.two
    by_cases hlt : k ≤ hi
    · have hr : RowAt wr b off p := h.on hbl hb
      rcases hp : p k
      · have P := Lib.hid hp
        clear hp
        go_wp2_with (go_at_call 105; refine (holds_any b off p k _ hr (by omega)).mono ?_; rintro e w' ⟨rfl, rfl⟩; rw [P.out])
        go_roundw
        case rel =>
          refine ⟨k + 1, rfl, by omega, by omega, by go_num, fun i h1 h2 => ?_, hbl, bx⟩
          rcases Nat.lt_or_ge i k with h3 | h3
          · exact hn i h1 h3
          · obtain rfl : i = k := by omega
            exact P.out
        case measure => simp [intOf]; omega
      · have P := Lib.hid hp
        clear hp
        go_wp2_with (go_at_call 105; refine (holds_any b off p k _ hr (by omega)).mono ?_; rintro e w' ⟨rfl, rfl⟩; rw [P.out])
        rw [Exit.noGoto_ret]
        go_ret
        exact ⟨k, rfl, .inr ⟨k, rfl, hk, hlt, P.out, hn⟩, hbl⟩
    · go_wp2
      rw [Exit.noGoto_ret]
      go_ret
      exact ⟨-1, rfl, .inl ⟨rfl, fun j h1 h2 => hn j h1 (by omega)⟩, hbl⟩

def meetsB (p : Nat → Bool) (lo hi : Nat) : Bool := (List.range (hi + 1)).any fun j => decide (lo ≤ j) && p j
theorem meetsB_iff {p : Nat → Bool} {lo hi : Nat} : meetsB p lo hi = true ↔ ∃ j, lo ≤ j ∧ j ≤ hi ∧ p j = true := by
  simp only [meetsB, List.any_eq_true, List.mem_range, Bool.and_eq_true, decide_eq_true_eq]
  exact ⟨fun ⟨j, h1, h2, h3⟩ => ⟨j, h2, by omega, h3⟩, fun ⟨j, h1, h2, h3⟩ => ⟨j, by omega, h1, h3⟩⟩
theorem meets_of_first {p : Nat → Bool} {lo hi : Nat} {r : Int} (h : FirstIs p lo hi r) : (r != -1) = meetsB p lo hi := by
  rcases h with ⟨rfl, h⟩ | ⟨j, rfl, h1, h2, h3, _⟩
  · have : meetsB p lo hi = false := by
      rw [← Bool.not_eq_true, meetsB_iff]
      rintro ⟨j, h1, h2, h3⟩
      rw [h j h1 h2] at h3; cases h3
    simp [this]
  · have : meetsB p lo hi = true := meetsB_iff.2 ⟨j, h1, h2, h3⟩
    rw [this]; first | (simp; done) | (simp; omega)

set_option maxHeartbeats 400000 in
theorem meets_any (b off : Nat) (p : Nat → Bool) (lo hi : Nat) (w : World) (h : RowAt w b off p) (hb : b < w.heap.size) (h1 : hi ≤ 1000) :
    Calls Try.prog 91 #[.pointer (some ⟨b, off, none⟩), .agg #[.int .i64 lo, .int .i64 hi]] w fun e w' => e = .returned (.bool (meetsB p lo hi)) ∧ Below w.heap.size w w' := by
  go_enter Try.func91, Try.ntmps91
  go_wp2_with (go_at_call 99; refine (first_any b off p lo hi _ (h.on (n := w.heap.size) (by repeat (first | (with_reducible assumption) | (with_reducible exact Below.refl _ _) | ((with_reducible refine Below.alloc ?_ ?_ _); rotate_left; (focus (first | omega | (simp only [World.size_alloc, World.size_setCell, World.size_drew, World.heap_drewN]; first | done | omega)))) | ((with_reducible refine Below.setCell ?_ ?_ _); rotate_left; (focus (first | omega | (simp only [World.size_alloc, World.size_setCell, World.size_drew, World.heap_drewN]; first | done | omega)))) | (with_reducible refine below_drewN ?_ _) | (with_reducible refine Below.drew ?_) | ((with_reducible refine Below.trans ?_ (Below.mono (by assumption) ?_)); rotate_left; (focus (first | omega | (simp only [World.size_alloc, World.size_setCell, World.size_drew, World.heap_drewN]; first | done | omega)))))) hb) (by (focus (first | omega | (simp only [World.size_alloc, World.size_setCell, World.size_drew, World.heap_drewN]; first | done | omega)))) h1).mono ?_; rintro e w1 ⟨r, rfl, hr, hb1⟩)
  go_ret
  exact ⟨ret_bool (meets_of_first hr), (by repeat (first | (with_reducible assumption) | (with_reducible exact Below.refl _ _) | ((with_reducible refine Below.alloc ?_ ?_ _); rotate_left; (focus (first | omega | (simp only [World.size_alloc, World.size_setCell, World.size_drew, World.heap_drewN]; first | done | omega)))) | ((with_reducible refine Below.setCell ?_ ?_ _); rotate_left; (focus (first | omega | (simp only [World.size_alloc, World.size_setCell, World.size_drew, World.heap_drewN]; first | done | omega)))) | (with_reducible refine below_drewN ?_ _) | (with_reducible refine Below.drew ?_) | ((with_reducible refine Below.trans ?_ (Below.mono (by assumption) ?_)); rotate_left; (focus (first | omega | (simp only [World.size_alloc, World.size_setCell, World.size_drew, World.heap_drewN]; first | done | omega))))))⟩
end Go.Proofs.Ytigpefjeelgfdaa

/-
  Walks of layer 1: the ends of a row.
-/
namespace Go.Proofs.Ytigpefjeelgfdaa
open Go.RowKit

/-- The ends of what is set ahead of k: 1000 and 0, as long as nothing is. -/
def EndsTo (p : Nat → Bool) (k lo hi : Nat) : Prop :=
  ((∀ j, j < k → p j = false) ∧ lo = 1000 ∧ hi = 0) ∨ (p lo = true ∧ lo < k ∧ p hi = true ∧ hi < k ∧ ∀ j, j < k → p j = true → lo ≤ j ∧ j ≤ hi)
theorem EndsTo.zero (p : Nat → Bool) : EndsTo p 0 1000 0 := .inl ⟨fun j h => absurd h (by omega), rfl, rfl⟩
theorem EndsTo.no {p : Nat → Bool} {k lo hi : Nat} (h : EndsTo p k lo hi) (hk : p k = false) : EndsTo p (k + 1) lo hi := by
  rcases h with ⟨h1, h2, h3⟩ | ⟨h1, h2, h3, h4, h5⟩
  · refine .inl ⟨fun j hj => ?_, h2, h3⟩
    rcases Nat.lt_or_ge j k with h | h
    · exact h1 j h
    · obtain rfl : j = k := by omega
      exact hk
  · refine .inr ⟨h1, by omega, h3, by omega, fun j hj hp => ?_⟩
    rcases Nat.lt_or_ge j k with h | h
    · exact h5 j h hp
    · obtain rfl : j = k := by omega
      rw [hk] at hp; cases hp
theorem EndsTo.yes {p : Nat → Bool} {k lo hi : Nat} (h : EndsTo p k lo hi) (hk : p k = true) (h9 : k ≤ 1000) : EndsTo p (k + 1) (min lo k) k := by
  rcases h with ⟨h1, h2, h3⟩ | ⟨h1, h2, h3, h4, h5⟩
  · subst h2
    have e : min 1000 k = k := by omega
    rw [e]
    refine .inr ⟨hk, by omega, hk, by omega, fun j hj hp => ?_⟩
    rcases Nat.lt_or_ge j k with h | h
    · rw [h1 j h] at hp; cases hp
    · omega
  · have e : min lo k = lo := by omega
    rw [e]
    refine .inr ⟨h1, by omega, hk, by omega, fun j hj hp => ?_⟩
    rcases Nat.lt_or_ge j k with h | h
    · have := h5 j h hp; omega
    · omega
def RetEnds (p : Nat → Bool) (w : World) (e : Ending) (w' : World) : Prop := ∃ lo hi : Nat, e = .returned (.agg #[.int .i64 lo, .int .i64 hi]) ∧ EndsTo p 1001 lo hi ∧ Below w.heap.size w w'

set_option maxHeartbeats 400000 in
theorem rowEnds_any (b off : Nat) (p : Nat → Bool) (w : World) (h : RowAt w b off p) (hb : b < w.heap.size) :
    Calls Try.prog 93 #[.pointer (some ⟨b, off, none⟩)] w (RetEnds p w) := by
  obtain ⟨N, hN⟩ : ∃ N : Nat, Hid (N = 1001) := ⟨1001, rfl⟩
  go_enter Try.func93, Try.ntmps93
  go_wp2
  go_loopw [4, 6] (fun _ i wr => ∃ (k lo hi : Nat), k ≤ N ∧ i = .int .i64 k ∧ EndsTo p k lo hi ∧ Below w.heap.size w wr ∧ Box wr (w.heap.size + 1) 33 #[.int .i64 lo, .int .i64 hi] ∧ Box wr w.heap.size 33 #[.int .i64 0, .int .i64 0])
    (fun _ i _ => N - (intOf i).toNat)
  case atStart =>
    refine ⟨0, 1000, 0, by omega, rfl, EndsTo.zero p, (by repeat (first | (with_reducible assumption) | (with_reducible exact Below.refl _ _) | ((with_reducible refine Below.alloc ?_ ?_ _); rotate_left; (focus (first | omega | (simp only [World.size_alloc, World.size_setCell, World.size_drew, World.heap_drewN]; first | done | omega)))) | ((with_reducible refine Below.setCell ?_ ?_ _); rotate_left; (focus (first | omega | (simp only [World.size_alloc, World.size_setCell, World.size_drew, World.heap_drewN]; first | done | omega)))) | (with_reducible refine below_drewN ?_ _) | (with_reducible refine Below.drew ?_) | ((with_reducible refine Below.trans ?_ (Below.mono (by assumption) ?_)); rotate_left; (focus (first | omega | (simp only [World.size_alloc, World.size_setCell, World.size_drew, World.heap_drewN]; first | done | omega)))))), ?_, ?_⟩
    all_goals (refine Box.of_f ?_; repeat (first | ((with_reducible refine BoxF.done (by with_reducible assumption) ?_); rfl) | ((with_reducible refine BoxF.new ?_ ?_); (focus (first | omega | (simp only [World.size_alloc, World.size_setCell, World.size_drew, World.heap_drewN]; first | done | omega))); rfl) | ((with_reducible refine BoxF.alloc ?_ ?_); (focus (first | omega | (simp only [World.size_alloc, World.size_setCell, World.size_drew, World.heap_drewN]; first | done | omega)))) | (with_reducible refine BoxF.set ?_) | ((with_reducible refine BoxF.far ?_ ?_); ((try simp only []); omega)) | (with_reducible refine BoxF.drewN ?_) | (with_reducible refine BoxF.drew ?_) | ((with_reducible refine BoxF.below (by with_reducible assumption) ?_ ?_); (focus (first | omega | (simp only [World.size_alloc, World.size_setCell, World.size_drew, World.heap_drewN]; first | done | omega))))))
  case round =>
    obtain ⟨k, lo, hi, hk, rfl, he, hbl, bx, bz⟩ := hrel
    obtain ⟨u1, u2, u3, u4⟩ := bx.two
    obtain ⟨t1, t2, t3, t4⟩ := bz.two
    have hz := bx.lt
    by_cases hlt : k < N
    · have hr : RowAt wr b off p := h.on hbl hb
      have hlt2 : (k : Int) < 1001 := by have := hN.out; omega
      have hlt3 : k < 1001 := by have := hN.out; omega
      have HL := Lib.hid hlt3
      clear hlt3
      rcases hp : p k
      · have P := Lib.hid hp
        clear hp
        go_wp2_with (go_at_call 105; refine (holds_any b off p k _ hr HL.out).mono ?_; rintro e w' ⟨rfl, rfl⟩; rw [P.out])
        go_roundw
        case rel => exact ⟨k + 1, lo, hi, by omega, by go_num, he.no P.out, hbl, bx, bz⟩
        case measure => simp [intOf]; omega
      · have P := Lib.hid hp
        clear hp
        have hy := he.yes P.out (by have := HL.out; omega)
        by_cases q : k < lo
        · have hy' : Hid (EndsTo p (k + 1) k k) := by rw [show min lo k = k from by omega] at hy; exact hy
          clear hy
          go_wp2_with (go_at_call 105; refine (holds_any b off p k _ hr HL.out).mono ?_; rintro e w' ⟨rfl, rfl⟩; rw [P.out])
          go_roundw
          case rel =>
            refine ⟨k + 1, k, k, by omega, by go_num, hy'.out, (by repeat (first | (with_reducible assumption) | (with_reducible exact Below.refl _ _) | ((with_reducible refine Below.alloc ?_ ?_ _); rotate_left; (focus (first | omega | (simp only [World.size_alloc, World.size_setCell, World.size_drew, World.heap_drewN]; first | done | omega)))) | ((with_reducible refine Below.setCell ?_ ?_ _); rotate_left; (focus (first | omega | (simp only [World.size_alloc, World.size_setCell, World.size_drew, World.heap_drewN]; first | done | omega)))) | (with_reducible refine below_drewN ?_ _) | (with_reducible refine Below.drew ?_) | ((with_reducible refine Below.trans ?_ (Below.mono (by assumption) ?_)); rotate_left; (focus (first | omega | (simp only [World.size_alloc, World.size_setCell, World.size_drew, World.heap_drewN]; first | done | omega)))))), ?_, ?_⟩
            all_goals (refine Box.of_f ?_; repeat (first | ((with_reducible refine BoxF.done (by with_reducible assumption) ?_); rfl) | ((with_reducible refine BoxF.new ?_ ?_); (focus (first | omega | (simp only [World.size_alloc, World.size_setCell, World.size_drew, World.heap_drewN]; first | done | omega))); rfl) | ((with_reducible refine BoxF.alloc ?_ ?_); (focus (first | omega | (simp only [World.size_alloc, World.size_setCell, World.size_drew, World.heap_drewN]; first | done | omega)))) | (with_reducible refine BoxF.set ?_) | ((with_reducible refine BoxF.far ?_ ?_); ((try simp only []); omega)) | (with_reducible refine BoxF.drewN ?_) | (with_reducible refine BoxF.drew ?_) | ((with_reducible refine BoxF.below (by with_reducible assumption) ?_ ?_); (focus (first | omega | (simp only [World.size_alloc, World.size_setCell, World.size_drew, World.heap_drewN]; first | done | omega))))))
          case measure => simp [intOf]; omega
        · have hy' : Hid (EndsTo p (k + 1) lo k) := by rw [show min lo k = lo from by omega] at hy; exact hy
          clear hy
          go_wp2_with (go_at_call 105; refine (holds_any b off p k _ hr HL.out).mono ?_; rintro e w' ⟨rfl, rfl⟩; rw [P.out])
          go_roundw
          case rel =>
            refine ⟨k + 1, lo, k, by omega, by go_num, hy'.out, (by repeat (first | (with_reducible assumption) | (with_reducible exact Below.refl _ _) | ((with_reducible refine Below.alloc ?_ ?_ _); rotate_left; (focus (first | omega | (simp only [World.size_alloc, World.size_setCell, World.size_drew, World.heap_drewN]; first | done | omega)))) | ((with_reducible refine Below.setCell ?_ ?_ _); rotate_left; (focus (first | omega | (simp only [World.size_alloc, World.size_setCell, World.size_drew, World.heap_drewN]; first | done | omega)))) | (with_reducible refine below_drewN ?_ _) | (with_reducible refine Below.drew ?_) | ((with_reducible refine Below.trans ?_ (Below.mono (by assumption) ?_)); rotate_left; (focus (first | omega | (simp only [World.size_alloc, World.size_setCell, World.size_drew, World.heap_drewN]; first | done | omega)))))), ?_, ?_⟩
            all_goals (refine Box.of_f ?_; repeat (first | ((with_reducible refine BoxF.done (by with_reducible assumption) ?_); rfl) | ((with_reducible refine BoxF.new ?_ ?_); (focus (first | omega | (simp only [World.size_alloc, World.size_setCell, World.size_drew, World.heap_drewN]; first | done | omega))); rfl) | ((with_reducible refine BoxF.alloc ?_ ?_); (focus (first | omega | (simp only [World.size_alloc, World.size_setCell, World.size_drew, World.heap_drewN]; first | done | omega)))) | (with_reducible refine BoxF.set ?_) | ((with_reducible refine BoxF.far ?_ ?_); ((try simp only []); omega)) | (with_reducible refine BoxF.drewN ?_) | (with_reducible refine BoxF.drew ?_) | ((with_reducible refine BoxF.below (by with_reducible assumption) ?_ ?_); (focus (first | omega | (simp only [World.size_alloc, World.size_setCell, World.size_drew, World.heap_drewN]; first | done | omega))))))
          case measure => simp [intOf]; omega
    · have hlt2 : ¬ (k : Int) < 1001 := by have := hN.out; omega
      have he' : Hid (EndsTo p 1001 lo hi) := by have h1 : k = 1001 := by have := hN.out; omega
                                                 rw [← h1]; exact he
      go_wp2
      refine bodyPost_ret (v := .agg #[.int .i64 lo, .int .i64 hi]) (by simp [results, Try.results93, go_sem, *]) rfl ?_
      exact ⟨lo, hi, rfl, he'.out, (by repeat (first | (with_reducible assumption) | (with_reducible exact Below.refl _ _) | ((with_reducible refine Below.alloc ?_ ?_ _); rotate_left; (focus (first | omega | (simp only [World.size_alloc, World.size_setCell, World.size_drew, World.heap_drewN]; first | done | omega)))) | ((with_reducible refine Below.setCell ?_ ?_ _); rotate_left; (focus (first | omega | (simp only [World.size_alloc, World.size_setCell, World.size_drew, World.heap_drewN]; first | done | omega)))) | (with_reducible refine below_drewN ?_ _) | (with_reducible refine Below.drew ?_) | ((with_reducible refine Below.trans ?_ (Below.mono (by assumption) ?_)); rotate_left; (focus (first | omega | (simp only [World.size_alloc, World.size_setCell, World.size_drew, World.heap_drewN]; first | done | omega))))))⟩
end Go.Proofs.Ytigpefjeelgfdaa

/-
  A region that draws its order: all operations but the last few read, or call what makes memory of its own (quiet in the class of the later worlds); the last few come one behind the other. No program is named here.
-/
namespace Go.Proofs.Ytigpefjeelgfdaa
open Go.RowKit

section
variable {P : Program} {ops : Array Oper} {md : Region.Mode} {C : World → Prop}

/-- Whatever order the head is taken in; behind it L. -/
def headQ (P : Program) (md : Region.Mode) (ops : Array Oper) (C : World → Prop) (n : Nat) (L : Array Bool → Act → Prop) : Nat → Array Bool → Act → Prop
  | 0, listed, a => L listed a
  | f + 1, listed, a =>
    Region.ready md ops listed ≠ [] ∧ ∀ i ∈ Region.ready md ops listed, i < n ∧ qOp P ops C i (headQ P md ops C n L f (listed.setIfInBounds i true)) a

theorem any_of_headQ {n g : Nat} {L : Array Bool → Act → Prop} {Q' : Exit → Act → World → Prop} (hL : ∀ listed a w, C w → L listed a → wpAny P md ops Q' g listed a w) :
    ∀ (f : Nat) (listed : Array Bool) (a : Act) (w : World), C w → headQ P md ops C n L f listed a → wpAny P md ops Q' (f + g) listed a w
  | 0, listed, a, w, hw, h => by rw [Nat.zero_add]; exact hL _ _ _ hw h
  | f + 1, listed, a, w, hw, h => by
    rw [show f + 1 + g = (f + g) + 1 by omega]
    exact ⟨fun h0 => absurd h0 h.1, fun i hi => wpOp_of_qOp hw (fun a' w' hw' h' => any_of_headQ hL f _ a' w' hw' h') (h.2 i hi).2⟩

theorem headQ_first {n i : Nat} {oi : Oper} {v : Value} {L : Array Bool → Act → Prop} (hi : ops[i]? = some oi) (hsel : ∀ (j : Nat) (o : Oper) cs b, ops[j]? = some o → o.op ≠ .select cs b)
    (hs : Region.sinkB md ops n = true) (hc : Region.chainB md ops n = true) (hn : n < ops.size) (hin : i < n)
    (hdone : ∀ listed a, L listed a → ∀ j ∈ Region.ready md ops listed, n ≤ j) :
    ∀ (f : Nat) (listed : Array Bool) (a : Act), HeadInv md ops n listed →
      (∀ j oj, ops[j]? = some oj → j ≠ i → listed.getD j true = false → (∀ e ∈ oj.after, Region.binds md e = true → e.on ≠ i) → oi.apart ops oj = true) →
      i ∈ Region.ready md ops listed → YieldsIn P ops C oi v a →
      headQ P md ops C n L f (listed.setIfInBounds i true) (a.put oi.dst v) → headQ P md ops C n L (f + 1) listed a := by
  have early : ∀ (listed : Array Bool), HeadInv md ops n listed → i ∈ Region.ready md ops listed → ∀ j ∈ Region.ready md ops listed, j < n := by
    intro listed inv hr j hj
    rcases Nat.lt_or_ge j n with h | h
    · exact h
    · exact absurd hj (tail_waits hs hc hn inv _ i rfl hin (mem_ready.1 hr).1 j h)
  intro f
  induction f with
  | zero =>
    intro listed a inv _ hr hy H
    refine ⟨fun h => (by rw [h] at hr; cases hr), fun j hj => ?_⟩
    have hjn := early listed inv hr j hj
    refine ⟨hjn, ?_⟩
    by_cases hji : j = i
    · subst hji; exact hy.qOp hi H
    · have := hdone _ _ H j (ready_mono hj hji)
      omega
  | succ f ih =>
    intro listed a inv hfree hr hy H
    have hun := (mem_ready.1 hr).1
    refine ⟨fun h => (by rw [h] at hr; cases hr), fun j hj => ?_⟩
    have hjn := early listed inv hr j hj
    refine ⟨hjn, ?_⟩
    by_cases hji : j = i
    · subst hji; exact hy.qOp hi H
    · have h1 := (H.2 j (ready_mono hj hji)).2
      obtain ⟨hjun, oj, hoj, hall⟩ := mem_ready.1 hj
      have hnot : ∀ e ∈ oj.after, Region.binds md e = true → e.on ≠ i := fun e he hb heq => by
        have h1 := hall e he hb
        rw [heq, getD_both hun] at h1
        cases h1
      have h2 := qOp_put hoj (hfree j oj hoj hji hjun hnot) (fun cs b => hsel i oi cs b hi) (fun cs b => hsel j oj cs b hoj) hy h1
      have hfree' : ∀ k ok, ops[k]? = some ok → k ≠ i → (listed.setIfInBounds j true).getD k true = false →
          (∀ e ∈ ok.after, Region.binds md e = true → e.on ≠ i) → oi.apart ops ok = true := fun k ok hk hki hun hno => by
        refine hfree k ok hk hki ?_ hno
        by_cases hjk : j = k
        · subst hjk; exact hjun
        · rw [getD_set_ne true hjk] at hun; exact hun
      refine qOp_mono (fun a' h3 => ih (listed.setIfInBounds j true) a' (inv.set hj hjn) hfree' (ready_mono hr (Ne.symm hji)) h3.1 ?_) h2
      rw [Array.setIfInBounds_comm _ _ hji]
      exact h3.2

theorem headQ_lex {n g : Nat} {Lq : Act → Prop} (hsel : Region.noSelect ops = true) (hs : Region.sinkB md ops n = true) (hc : Region.chainB md ops n = true) (hn : n < ops.size) :
    ∀ (l : List Oper) (k : Nat) (listed : Array Bool) (a : Act), (∀ j, j < l.length → l[j]? = ops[k + j]?) → k + l.length = n → HeadInv md ops n listed →
    Region.lexHead md ops g l.length k listed = true → wpQuiet P ops C Lq l a →
    headQ P md ops C n (fun listed' a' => Region.seqB md ops g n listed' = true ∧ Lq a') l.length listed a
  | [], k, listed, a, _, hk, _, hB, h => by
    have : k = n := by simpa using hk
    subst this
    exact ⟨by simpa [Region.lexHead] using hB, h⟩
  | o :: l, k, listed, a, hl, hk, inv, hB, h => by
    have h0 : ops[k]? = some o := by simpa using (hl 0 (by simp)).symm
    simp only [List.length_cons, Region.lexHead, Bool.and_eq_true] at hB
    obtain ⟨⟨hr, hf⟩, hB'⟩ := hB
    have hkn : k < n := by simp only [List.length_cons] at hk; omega
    have hr' : k ∈ Region.ready md ops listed := by simpa using hr
    have hst : qOp P ops C k (wpQuiet P ops C Lq l) a := by unfold qOp; simp only [h0]; exact h
    obtain ⟨v, hy, hK⟩ := yieldsIn_of_qOp h0 hst
    exact headQ_first h0 (Region.noSelect_spec hsel) hs hc hn hkn (fun listed' a' hL => seqB_ready hL.1) l.length listed a inv (Region.free_spec h0 hf) hr' hy
      (headQ_lex hsel hs hc hn l (k + 1) _ _ (fun j hj => by have := hl (j + 1) (by simp; omega); simpa [Nat.add_assoc, Nat.add_comm 1 j] using this) (by simp only [List.length_cons] at hk; omega) (inv.set hr' hkn) hB' hK)
end

/-- The first n operations quietly, in the class of the worlds that hold all that w held; then the others, in their order. -/
theorem wp_region_later_tail {P : Program} {id : Nat} {Q : Exit → Act → World → Prop} {a : Act} {w : World} {l : List Oper} (n : Nat) (hm : P.follows .mixedOrders = true) (hB : Region.lexTailB .any l.toArray n = true)
    (h : wpQuiet P l.toArray (fun w' => ∃ x : LaterW w, w' = x.world) (fun a' => ∀ w', (∃ x : LaterW w, w' = x.world) → wpList P l.toArray Q (l.drop n) a' w') (l.take n) a) : (Code.region id l.toArray true).wp P Q a w := by
  simp only [Region.lexTailB, Bool.and_eq_true, decide_eq_true_eq] at hB
  obtain ⟨⟨⟨⟨hsel, hn⟩, hs⟩, hc⟩, hlex⟩ := hB
  have hn' : n < l.length := by simpa using hn
  have htl : (l.take n).length = n := by simp; omega
  have hdl : (l.drop n).length = l.toArray.size - n := by simp
  have inv0 : HeadInv .any l.toArray n (Array.replicate l.toArray.size false) :=
    ⟨by simp, fun j oj _ hl => (by rw [getD_replicate_false] at hl; cases hl), fun t _ ht => getD_in (by simpa using ht) (getD_replicate_false _ _)⟩
  have H := headQ_lex (md := .any) (g := l.toArray.size - n) hsel hs hc hn (l.take n) 0 _ a (fun j hj => by
    have hj' : j < n := by rw [htl] at hj; exact hj
    simp [hj']) (by simpa using htl) inv0 (by rw [htl]; exact hlex) h
  refine wp_region_any hm ?_
  have := any_of_headQ (Q' := Q) (g := l.toArray.size - n) (fun listed a' w' hw' hL => by
    have := wpAny_of_seq (md := .any) (Q' := Q) (l.drop n) n listed a' w' (fun j => by simp [List.getElem?_drop]) (by rw [hdl]; exact hL.1) (hL.2 w' hw')
    rwa [hdl] at this) _ _ _ _ ⟨⟨w.drew, (Below.refl _ _).drew⟩, rfl⟩ H
  rw [htl, show n + (l.toArray.size - n) = l.toArray.size by omega] at this
  exact this
end Go.Proofs.Ytigpefjeelgfdaa

/-
  Walks of layer 1: a list with one element more, and a list taken over.
-/
namespace Go.Proofs.Ytigpefjeelgfdaa
open Go.RowKit

theorem infoInt64 : (Try.prog.info? 2).map (fun i => (i.zero, i.size, i.bytes)) = some (some (.int .i64 0), 1, 8) := by kernel_rfl

theorem addBlock (a : Addr) (n : Nat) : (a.add n).block = a.block := by unfold Addr.add; split <;> rfl
theorem cells_alloc {w : World} {o : Obj} {ad : Addr} {xs : List Value} (h : ∀ j u, xs[j]? = some u → w.cell? (ad.add j) = some u) (hlt : ad.block < w.heap.size) :
    ∀ b, some ad = some b → ∀ j u, xs[j]? = some u → (w.alloc o).cell? (b.add j) = some u := by
  intro b hb j u hu
  injection hb with hb
  subst hb
  exact (World.cell?_alloc_lt w o _ (by rw [addBlock]; exact hlt)).trans (h j u hu)
/-- A list of the call's own with one element more: it lies in new memory. -/
def RetGrown (e : TypeId) (size n : Nat) (xs : List Value) (w : World) (en : Ending) (w' : World) : Prop :=
  ∃ v, en = .returned v ∧ w'.ownsRow w.heap.size e size v n xs ∧ Below w.heap.size w w'

set_option maxHeartbeats 400000 in
theorem grownInt64_any (base n : Nat) (v : Value) (xs : List Value) (y : Int) (w : World) (h : w.ownsRow base 2 1 v n xs) (hn : Hid (n ≤ 1000)) :
    Calls Try.prog 70 #[v, .int .i64 y] w (RetGrown 2 1 (n + 1) (xs ++ [.int .i64 y]) w) := by
  obtain ⟨i0, hi, hz0, hz1, hz2⟩ := info_parts infoInt64
  have hlen := Lib.hid h.1
  rcases h.2 with ⟨rfl, rfl⟩ | ⟨g, cap, cur, rfl, hb, hg, hnc, hcm, hcs, htake⟩
  · have hx : xs = [] := List.eq_nil_of_length_eq_zero (by have := hlen.out; omega)
    subst hx
    clear h
    go_enter Try.func70, Try.ntmps70
    go_wp2_with (at_builtin; go_loud (refine wpList_append_grows _ rfl (.tmp 10) (.tmp 12) _ rfl 2 i0 (.int .i64 0) 1 8 Try.underlying43 hi hz0 hz1 hz2 rfl (by decide) none 0 0 [] rfl (fun _ => ⟨rfl, rfl⟩) (by simp) (by simp) ⟨w.heap.size, 0, none⟩ 1 1 [.int .i64 y] rfl rfl (cell_one_new _ _ _) (by simp [Value.oneCell']) (by omega) (by simp [maxLen]) (by omega) ?_; intro v' w1 hown1 hgrow1))
    go_ret
    refine ⟨v', rfl, own_mono (by simpa using hown1) (by simp), ?_⟩
    exact Below.trans (b := w.alloc (.cells #[.int .i64 y] 2)) (by repeat (first | (with_reducible assumption) | (with_reducible exact Below.refl _ _) | ((with_reducible refine Below.alloc ?_ ?_ _); rotate_left; (focus (first | omega | (simp only [World.size_alloc, World.size_setCell, World.size_drew, World.heap_drewN]; first | done | omega)))) | ((with_reducible refine Below.setCell ?_ ?_ _); rotate_left; (focus (first | omega | (simp only [World.size_alloc, World.size_setCell, World.size_drew, World.heap_drewN]; first | done | omega)))) | (with_reducible refine below_drewN ?_ _) | (with_reducible refine Below.drew ?_) | ((with_reducible refine Below.trans ?_ (Below.mono (by assumption) ?_)); rotate_left; (focus (first | omega | (simp only [World.size_alloc, World.size_setCell, World.size_drew, World.heap_drewN]; first | done | omega)))))) (gb_to_below hgrow1 (by simp) (by simp))
  · have hold := Lib.hid (h.cells (g := g) rfl)
    have hlt : g < w.heap.size := (Array.getElem?_eq_some_iff.1 hg).1
    have HC := Lib.hid hcm
    have HT := Lib.hid htake
    have HS := Lib.hid hcs
    have HH := Lib.hid h
    have HG := Lib.hid hg
    clear hcm htake hcs h hg
    go_enter Try.func70, Try.ntmps70
    go_wp2_with (at_builtin; go_loud (refine wpList_append_grows _ rfl (.tmp 10) (.tmp 12) _ rfl 2 i0 (.int .i64 0) 1 8 Try.underlying43 hi hz0 hz1 hz2 rfl (by decide) (some ⟨g, 0, none⟩) n n xs rfl (by simp) hlen.out (cells_alloc hold.out hlt) ⟨w.heap.size, 0, none⟩ 1 1 [.int .i64 y] rfl rfl (cell_one_new _ _ _) (by simp [Value.oneCell']) (by omega) (by have := hn.out; simp only [maxLen]; omega) (by have := hn.out; omega) ?_; intro v' w1 hown1 hgrow1))
    go_ret
    refine ⟨v', rfl, own_mono (by simpa using hown1) (by simp), ?_⟩
    exact Below.trans (b := w.alloc (.cells #[.int .i64 y] 2)) (by repeat (first | (with_reducible assumption) | (with_reducible exact Below.refl _ _) | ((with_reducible refine Below.alloc ?_ ?_ _); rotate_left; (focus (first | omega | (simp only [World.size_alloc, World.size_setCell, World.size_drew, World.heap_drewN]; first | done | omega)))) | ((with_reducible refine Below.setCell ?_ ?_ _); rotate_left; (focus (first | omega | (simp only [World.size_alloc, World.size_setCell, World.size_drew, World.heap_drewN]; first | done | omega)))) | (with_reducible refine below_drewN ?_ _) | (with_reducible refine Below.drew ?_) | ((with_reducible refine Below.trans ?_ (Below.mono (by assumption) ?_)); rotate_left; (focus (first | omega | (simp only [World.size_alloc, World.size_setCell, World.size_drew, World.heap_drewN]; first | done | omega)))))) (gb_to_below hgrow1 (by simp) (by simp))
end Go.Proofs.Ytigpefjeelgfdaa
