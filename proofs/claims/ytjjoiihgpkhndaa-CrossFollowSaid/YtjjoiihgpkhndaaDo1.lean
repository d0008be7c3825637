/-
  A part of the texts that the claim builds on: see the last one.
-/
import Derived.Test.YtjjoiihgpkhndaaDm21
set_option linter.unusedSimpArgs false
set_option linter.unusedVariables false

namespace Go.Proofs.Ytjjoiihgpkhndaa.Eng
open Go.RowKit
def ratD (q : Int × Int) : Dat := .agg [iD q.1, iD q.2]
def red (num den : Int) : Int × Int := let b : Int := if den < 0 then -(Int.gcd num den) else Int.gcd num den
  (num.tdiv b, den.tdiv b)
def lessQ (a b : Int × Int) : Bool := decide (a.1 * b.2 < b.1 * a.2)
set_option maxRecDepth 100000 in
theorem whole_c (n : Int) : ACall Try.prog 85 [iD n] (ratD (n, 1)) := by
  refine acallK tabOk Try.func85 rfl rfl (show 1 ≤ _ by decide) rfl fun _ => ?_; simp only [Try.ntmps85]
  repeat (first | (with_reducible first | refine AWp.seqK fun _ => ?_ | refine AWp.blockK fun _ => ?_ | refine KK.go ?_) | ((first | refine AWp.reg tabOk ?_ | refine AWp.condK fun _ _ => ?_ | refine AWp.draws tabOk (by kernel_rfl) (by kernel_rfl) ?_); simp [-getElem?_pos, z0, z1, z2, ]) | ((first | refine AWp.ret ?_ | refine AWp.skip ?_ | refine AWp.exit ?_); try simp only [thenP]) | (with_reducible refine BB.go ?_; simp only [blockP, thenP, if_true, if_false, reduceIte]) | (with_reducible refine And.intro (show okLog _ _ = true from by kernel_rfl) ?_))
  (first | refine RR.ret ?_ | refine RR.normal ?_); simp [ratD]
set_option maxRecDepth 100000 in
theorem isLess_c (a b : Int × Int) (w1 : IntKind.i64.wrap (a.1 * b.2) = a.1 * b.2) (w2 : IntKind.i64.wrap (b.1 * a.2) = b.1 * a.2) : ACall Try.prog 74 [ratD a, ratD b] (bD (lessQ a b)) := by
  obtain ⟨a1, a2⟩ := a
  obtain ⟨b1, b2⟩ := b
  unfold ratD
  simp only at w1 w2
  refine acallK tabOk Try.func74 rfl rfl (show 2 ≤ _ by decide) rfl fun _ => ?_; simp only [Try.ntmps74]
  repeat (first | (with_reducible first | refine AWp.seqK fun _ => ?_ | refine AWp.blockK fun _ => ?_ | refine KK.go ?_) | ((first | refine AWp.reg tabOk ?_ | refine AWp.condK fun _ _ => ?_ | refine AWp.draws tabOk (by kernel_rfl) (by kernel_rfl) ?_); simp [-getElem?_pos, z0, z1, z2, w1, w2]) | ((first | refine AWp.ret ?_ | refine AWp.skip ?_ | refine AWp.exit ?_); try simp only [thenP]) | (with_reducible refine BB.go ?_; simp only [blockP, thenP, if_true, if_false, reduceIte]) | (with_reducible refine And.intro (show okLog _ _ = true from by kernel_rfl) ?_))
  (first | refine RR.ret ?_ | refine RR.normal ?_); simp [lessQ]
set_option maxRecDepth 100000 in
theorem isMore_c (a b : Int × Int) (w1 : IntKind.i64.wrap (a.1 * b.2) = a.1 * b.2) (w2 : IntKind.i64.wrap (b.1 * a.2) = b.1 * a.2) : ACall Try.prog 87 [ratD a, ratD b] (bD (lessQ b a)) := by
  have c := isLess_c b a w2 w1
  obtain ⟨a1, a2⟩ := a
  obtain ⟨b1, b2⟩ := b
  unfold ratD at c ⊢
  refine acallK tabOk Try.func87 rfl rfl (show 2 ≤ _ by decide) rfl fun _ => ?_; simp only [Try.ntmps87]
  repeat (first | (with_reducible first | refine AWp.seqK fun _ => ?_ | refine AWp.blockK fun _ => ?_ | refine KK.go ?_) | ((first | refine AWp.reg tabOk ?_ | refine AWp.condK fun _ _ => ?_ | refine AWp.draws tabOk (by kernel_rfl) (by kernel_rfl) ?_); simp [-getElem?_pos, z0, z1, z2, ]) | ((first | refine AWp.ret ?_ | refine AWp.skip ?_ | refine AWp.exit ?_); try simp only [thenP]) | (with_reducible refine BB.go ?_; simp only [blockP, thenP, if_true, if_false, reduceIte]) | (with_reducible refine And.intro (show okLog _ _ = true from by kernel_rfl) ?_))
  (first | refine Exec0.call [] c ?_ rfl ?_ ?_ | refine Exec.call [] c ?_ rfl ?_ ?_); (focus simp [-getElem?_pos, ]); (focus simp [-getElem?_pos, z0, z1, z2, ]); simp [-getElem?_pos, z0, z1, z2, ]
  repeat (first | (with_reducible first | refine AWp.seqK fun _ => ?_ | refine AWp.blockK fun _ => ?_ | refine KK.go ?_) | ((first | refine AWp.reg tabOk ?_ | refine AWp.condK fun _ _ => ?_ | refine AWp.draws tabOk (by kernel_rfl) (by kernel_rfl) ?_); simp [-getElem?_pos, z0, z1, z2, ]) | ((first | refine AWp.ret ?_ | refine AWp.skip ?_ | refine AWp.exit ?_); try simp only [thenP]) | (with_reducible refine BB.go ?_; simp only [blockP, thenP, if_true, if_false, reduceIte]) | (with_reducible refine And.intro (show okLog _ _ = true from by kernel_rfl) ?_))
  (first | refine RR.ret ?_ | refine RR.normal ?_); simp []
theorem tdiv_in {n b M : Int} (h : -M ≤ n ∧ n ≤ M) : -M ≤ n.tdiv b ∧ n.tdiv b ≤ M := by
  have h3 : (n.tdiv b).natAbs ≤ n.natAbs := by rw [Int.natAbs_tdiv]; exact Nat.div_le_self _ _
  omega
theorem tmod_in {n b M : Int} (h : -M ≤ n ∧ n ≤ M) : -M ≤ n.tmod b ∧ n.tmod b ≤ M := by
  have h3 : (n.tmod b).natAbs ≤ n.natAbs := by rw [Int.natAbs_tmod]; exact Nat.mod_le _ _
  omega
theorem gcd_step (a b : Int) : Int.gcd b (a.tmod b) = Int.gcd a b := by
  simp only [Int.gcd, Int.natAbs_tmod]
  rw [Nat.gcd_comm b.natAbs, ← Nat.gcd_rec, Nat.gcd_comm]
set_option maxRecDepth 100000 in
set_option maxHeartbeats 4000000 in
theorem inLeastTerms_c (num den : Int) (hn : -4000000000000000000 ≤ num ∧ num ≤ 4000000000000000000) (hd : -4000000000000000000 ≤ den ∧ den ≤ 4000000000000000000) (h0 : den ≠ 0) : ACall Try.prog 100 [iD num, iD den] (ratD (red num den)) := by
  obtain ⟨r, hr⟩ : ∃ r, r = ratD (red num den) := ⟨_, rfl⟩
  rw [← hr]
  refine acallK tabOk Try.func100 rfl rfl (show 2 ≤ _ by decide) rfl fun _ => ?_; simp only [Try.ntmps100]
  repeat (first | (with_reducible first | refine AWp.seqK fun _ => ?_ | refine AWp.blockK fun _ => ?_ | refine KK.go ?_) | ((first | refine AWp.reg tabOk ?_ | refine AWp.condK fun _ _ => ?_ | refine AWp.draws tabOk (by kernel_rfl) (by kernel_rfl) ?_); simp [-getElem?_pos, z0, z1, z2, ]) | ((first | refine AWp.ret ?_ | refine AWp.skip ?_ | refine AWp.exit ?_); try simp only [thenP]) | (with_reducible refine BB.go ?_; simp only [blockP, thenP, if_true, if_false, reduceIte]) | (with_reducible refine And.intro (show okLog _ _ = true from by kernel_rfl) ?_))
  refine AWp.loopK (ι := { p : Int × Int // Int.gcd p.1 p.2 = Int.gcd num den ∧ (-4000000000000000000 ≤ p.1 ∧ p.1 ≤ 4000000000000000000) ∧ (-4000000000000000000 ≤ p.2 ∧ p.2 ≤ 4000000000000000000) }) (n := 1) (fun k => [(0, .d (iD num)), (1, .d (iD den)), (4, .ptr 0 0 0), (5, .d (iD k.1.1)), (6, .d (iD k.1.2))]) (fun _ => [(0, .box 25 [.d (iD 0), .d (iD 0)] false)]) (fun k => k.1.2.natAbs) ⟨(num, den), rfl, hn, hd⟩ [0] ?_ ?_
  · refine ⟨by rfl, by simp [], by simp [or_imp, forall_and, ] <;> (try (intro _hne; simp [_hne])), by decide⟩
  rintro ⟨⟨x, y⟩, hg, hx, hy⟩ kk
  simp only at hg hx hy
  by_cases hy0 : y = 0
  · subst hy0
    have hx2 : (x.natAbs : Int) = Int.gcd num den := by rw [← hg]; simp [Int.gcd]
    have hx0 : ¬ x = 0 := fun e => by
      subst e
      have := Int.gcd_eq_zero_iff.1 (show Int.gcd num den = 0 by rw [← hg]; rfl)
      exact h0 this.2
    have wn : IntKind.i64.wrap (-x) = -x := wrap64_in (by omega)
    have hn0 : ¬ -x = 0 := by omega
    have q : ∀ n b : Int, (-4000000000000000000 ≤ n ∧ n ≤ 4000000000000000000) → IntKind.i64.wrap (n.tdiv b) = n.tdiv b := fun n b h => by have := tdiv_in (b := b) h; exact wrap64_in (by omega)
    have q1 := q num x hn
    have q2 := q den x hd
    have q3 := q num (-x) hn
    have q4 := q den (-x) hd
    rw [Int.tdiv_neg] at q3 q4
    by_cases g1 : x < 0 <;> by_cases g2 : den < 0
    · have hr' : r = .agg [iD (num.tdiv x), iD (den.tdiv x)] := by rw [hr]; simp only [ratD, red, if_pos g2, ← hx2]; rw [show -(x.natAbs : Int) = x by omega]
      repeat (first | (with_reducible first | refine AWp.seqK fun _ => ?_ | refine AWp.blockK fun _ => ?_ | refine KK.go ?_) | ((first | refine AWp.reg tabOk ?_ | refine AWp.condK fun _ _ => ?_ | refine AWp.draws tabOk (by kernel_rfl) (by kernel_rfl) ?_); simp [-getElem?_pos, z0, z1, z2, g1, g2, wn, hx0, q1, q2]) | ((first | refine AWp.ret ?_ | refine AWp.skip ?_ | refine AWp.exit ?_); try simp only [thenP]) | (with_reducible refine BB.go ?_; simp only [blockP, thenP, if_true, if_false, reduceIte]) | (with_reducible refine And.intro (show okLog _ _ = true from by kernel_rfl) ?_))
      (first | refine RR.ret ?_ | refine RR.normal ?_); simp [hr']
    · have hr' : r = .agg [iD (num.tdiv (-x)), iD (den.tdiv (-x))] := by rw [hr]; simp only [ratD, red, if_neg g2, ← hx2]; rw [show (x.natAbs : Int) = -x by omega]
      repeat (first | (with_reducible first | refine AWp.seqK fun _ => ?_ | refine AWp.blockK fun _ => ?_ | refine KK.go ?_) | ((first | refine AWp.reg tabOk ?_ | refine AWp.condK fun _ _ => ?_ | refine AWp.draws tabOk (by kernel_rfl) (by kernel_rfl) ?_); simp [-getElem?_pos, z0, z1, z2, g1, g2, wn, hx0, hn0, q3, q4]) | ((first | refine AWp.ret ?_ | refine AWp.skip ?_ | refine AWp.exit ?_); try simp only [thenP]) | (with_reducible refine BB.go ?_; simp only [blockP, thenP, if_true, if_false, reduceIte]) | (with_reducible refine And.intro (show okLog _ _ = true from by kernel_rfl) ?_))
      (first | refine RR.ret ?_ | refine RR.normal ?_); simp [hr']
    · have hr' : r = .agg [iD (num.tdiv (-x)), iD (den.tdiv (-x))] := by rw [hr]; simp only [ratD, red, if_pos g2, ← hx2]; rw [show (x.natAbs : Int) = x by omega]
      repeat (first | (with_reducible first | refine AWp.seqK fun _ => ?_ | refine AWp.blockK fun _ => ?_ | refine KK.go ?_) | ((first | refine AWp.reg tabOk ?_ | refine AWp.condK fun _ _ => ?_ | refine AWp.draws tabOk (by kernel_rfl) (by kernel_rfl) ?_); simp [-getElem?_pos, z0, z1, z2, g1, g2, wn, hx0, hn0, q3, q4]) | ((first | refine AWp.ret ?_ | refine AWp.skip ?_ | refine AWp.exit ?_); try simp only [thenP]) | (with_reducible refine BB.go ?_; simp only [blockP, thenP, if_true, if_false, reduceIte]) | (with_reducible refine And.intro (show okLog _ _ = true from by kernel_rfl) ?_))
      (first | refine RR.ret ?_ | refine RR.normal ?_); simp [hr']
    · have hr' : r = .agg [iD (num.tdiv x), iD (den.tdiv x)] := by rw [hr]; simp only [ratD, red, if_neg g2, ← hx2]; rw [show (x.natAbs : Int) = x by omega]
      repeat (first | (with_reducible first | refine AWp.seqK fun _ => ?_ | refine AWp.blockK fun _ => ?_ | refine KK.go ?_) | ((first | refine AWp.reg tabOk ?_ | refine AWp.condK fun _ _ => ?_ | refine AWp.draws tabOk (by kernel_rfl) (by kernel_rfl) ?_); simp [-getElem?_pos, z0, z1, z2, g1, g2, wn, hx0, q1, q2]) | ((first | refine AWp.ret ?_ | refine AWp.skip ?_ | refine AWp.exit ?_); try simp only [thenP]) | (with_reducible refine BB.go ?_; simp only [blockP, thenP, if_true, if_false, reduceIte]) | (with_reducible refine And.intro (show okLog _ _ = true from by kernel_rfl) ?_))
      (first | refine RR.ret ?_ | refine RR.normal ?_); simp [hr']
  · repeat (first | (with_reducible first | refine AWp.seqK fun _ => ?_ | refine AWp.blockK fun _ => ?_ | refine KK.go ?_) | ((first | refine AWp.reg tabOk ?_ | refine AWp.condK fun _ _ => ?_ | refine AWp.draws tabOk (by kernel_rfl) (by kernel_rfl) ?_); simp [-getElem?_pos, z0, z1, z2, hy0]) | ((first | refine AWp.ret ?_ | refine AWp.skip ?_ | refine AWp.exit ?_); try simp only [thenP]) | (with_reducible refine BB.go ?_; simp only [blockP, thenP, if_true, if_false, reduceIte]) | (with_reducible refine And.intro (show okLog _ _ = true from by kernel_rfl) ?_))
    have ht := tmod_in (b := y) hx
    refine LL.go ⟨(y, x.tmod y), (gcd_step x y).trans hg, hy, ht⟩ [0] ⟨by rfl, by simp [], by simp [or_imp, forall_and, ] <;> (try (intro _hne; simp [_hne])), by decide⟩ ?_
    have h1 : (x.tmod y).natAbs < y.natAbs := by rw [Int.natAbs_tmod]; exact Nat.mod_lt _ (by omega)
    simp only
    exact h1
set_option maxRecDepth 100000 in
theorem minus_c (a b : Int × Int) (w1 : IntKind.i64.wrap (a.1 * b.2) = a.1 * b.2) (w2 : IntKind.i64.wrap (b.1 * a.2) = b.1 * a.2) (w3 : IntKind.i64.wrap (a.1 * b.2 - b.1 * a.2) = a.1 * b.2 - b.1 * a.2) (w4 : IntKind.i64.wrap (a.2 * b.2) = a.2 * b.2)
    (hn : -4000000000000000000 ≤ a.1 * b.2 - b.1 * a.2 ∧ a.1 * b.2 - b.1 * a.2 ≤ 4000000000000000000) (hd : -4000000000000000000 ≤ a.2 * b.2 ∧ a.2 * b.2 ≤ 4000000000000000000) (h0 : a.2 * b.2 ≠ 0) :
    ACall Try.prog 99 [ratD a, ratD b] (ratD (red (a.1 * b.2 - b.1 * a.2) (a.2 * b.2))) := by
  have c := inLeastTerms_c _ _ hn hd h0
  obtain ⟨a1, a2⟩ := a
  obtain ⟨b1, b2⟩ := b
  simp only at w1 w2 w3 w4 c
  obtain ⟨r, hr⟩ : ∃ r, r = ratD (red (a1 * b2 - b1 * a2) (a2 * b2)) := ⟨_, rfl⟩
  simp only
  rw [← hr] at c ⊢
  obtain ⟨q, hq⟩ : ∃ q : Int × Int, r = .agg [iD q.1, iD q.2] := ⟨_, hr⟩
  subst hq
  unfold ratD
  refine acallK tabOk Try.func99 rfl rfl (show 2 ≤ _ by decide) rfl fun _ => ?_; simp only [Try.ntmps99]
  repeat (first | (with_reducible first | refine AWp.seqK fun _ => ?_ | refine AWp.blockK fun _ => ?_ | refine KK.go ?_) | ((first | refine AWp.reg tabOk ?_ | refine AWp.condK fun _ _ => ?_ | refine AWp.draws tabOk (by kernel_rfl) (by kernel_rfl) ?_); simp [-getElem?_pos, z0, z1, z2, w1, w2, w3, w4]) | ((first | refine AWp.ret ?_ | refine AWp.skip ?_ | refine AWp.exit ?_); try simp only [thenP]) | (with_reducible refine BB.go ?_; simp only [blockP, thenP, if_true, if_false, reduceIte]) | (with_reducible refine And.intro (show okLog _ _ = true from by kernel_rfl) ?_))
  (first | refine Exec0.call [] c ?_ rfl ?_ ?_ | refine Exec.call [] c ?_ rfl ?_ ?_); (focus simp [-getElem?_pos, ]); (focus simp [-getElem?_pos, z0, z1, z2, ]); simp [-getElem?_pos, z0, z1, z2, ]
  repeat (first | (with_reducible first | refine AWp.seqK fun _ => ?_ | refine AWp.blockK fun _ => ?_ | refine KK.go ?_) | ((first | refine AWp.reg tabOk ?_ | refine AWp.condK fun _ _ => ?_ | refine AWp.draws tabOk (by kernel_rfl) (by kernel_rfl) ?_); simp [-getElem?_pos, z0, z1, z2, w1, w2, w3, w4]) | ((first | refine AWp.ret ?_ | refine AWp.skip ?_ | refine AWp.exit ?_); try simp only [thenP]) | (with_reducible refine BB.go ?_; simp only [blockP, thenP, if_true, if_false, reduceIte]) | (with_reducible refine And.intro (show okLog _ _ = true from by kernel_rfl) ?_))
  (first | refine RR.ret ?_ | refine RR.normal ?_); simp []
structure Spot where
  at_ : Int
  lo : Int
  hi : Int
  name : Int
def Spot.cells (s : Spot) : List Dat := [iD s.at_, iD s.lo, iD s.hi, iD s.name]
def Spot.dat (s : Spot) : Dat := .agg s.cells
end Go.Proofs.Ytjjoiihgpkhndaa.Eng


namespace Go.Proofs.Ytjjoiihgpkhndaa.Eng
open Go.RowKit
theorem zq0 : Try.prog.follows .mixedOrders = true := by kernel_rfl
section
variable {P : Program} {tp : Bool} {ns : Nat}
theorem zq1 {x y : Code} {n : Nat} {s : St} {Q : Post} (h : ∀ k : KK P tp ns y Q, AWp P tp ns x n s (thenP k.K Q)) : AWp P tp ns (.seq x y) n s Q := AWp.seqK h
theorem zq2 {id n : Nat} {c : Code} {s : St} {Q : Post} (h : ∀ b : BB id Q, AWp P tp ns c n s b.B) : AWp P tp ns (.block id c) n s Q := AWp.blockK h
theorem zq3 {y : Code} {Q : Post} {k : KK P tp ns y Q} {n : Nat} {s : St} (h : AWp P tp ns y n s Q) : k.K n s := KK.go h
theorem zq5 {c : Operand} {x y : Code} {n : Nat} {s : St} {Q : Post} (h : ∀ (kx : KK P tp ns x Q) (ky : KK P tp ns y Q), CondG (opd ns s c) (kx.K n s) (ky.K n s)) : AWp P tp ns (.cond c x y) n s Q := AWp.condK h
theorem zq7 {id : Nat} {Q : Post} {b : BB id Q} {e : Exit} {n : Nat} {s : St} (h : blockP id Q e n s) : b.B e n s := BB.go h
end
theorem zq4 {tp : Bool} {ns id n : Nat} {l : List Oper} {s : St} {Q : Post} (h : Exec0 Try.prog tp TB l.toArray ns n l s (fun s' => Q .normal (n + l.length) s')) : AWp Try.prog tp ns (.region id l.toArray false) n s Q := AWp.reg tabOk h
theorem zq6 {tp : Bool} {ns id n : Nat} {l : List Oper} {s : St} {Q : Post} (h : Exec Try.prog TB l.toArray ns n l s [] (fun s' log => okLog l log = true ∧ Q .normal (n + l.length) s')) (hB : backB l.toArray = true := by kernel_rfl) : AWp Try.prog tp ns (.region id l.toArray true) n s Q := AWp.draws tabOk zq0 hB h
theorem zq8 {l : List Oper} {log : List Foot} {q : Prop} (h : q) (hl : okLog l log = true := by kernel_rfl) : okLog l log = true ∧ q := ⟨hl, h⟩
end Go.Proofs.Ytjjoiihgpkhndaa.Eng


namespace Go.Proofs.Ytjjoiihgpkhndaa.Eng
open Go.RowKit
structure CSt where
  at_ : Int
  lo : Int
  hi : Int
abbrev cRow (t : CSt) : List Dat := [iD t.at_, iD t.lo, iD t.hi]
def cRows (l : List CSt) : List (List Dat) := l.map cRow
@[simp] theorem cRows_len (l : List CSt) : (cRows l).length = l.length := List.length_map _
@[simp] theorem cRows_get (l : List CSt) (i : Nat) : (cRows l)[i]? = (l[i]?).map cRow := List.getElem?_map
abbrev pairD (l : List CSt) : Dat := .list (cRows l)
abbrev cstD (t : CSt) : Dat := .agg [iD t.at_, iD t.lo, iD t.hi]
def inK (n lo hi : Int) : Bool := decide (lo ≤ n ∧ n ≤ hi)
def fromK (lo hi : Int) (l : List Int) : Bool := l.all fun x => inK x lo hi
theorem allK_take {α : Type} {l : List α} {k : Nat} {x : α} (h : l[k]? = some x) (p : α → Bool) : (l.take (k + 1)).all p = ((l.take k).all p && p x) := by
  obtain ⟨hk, rfl⟩ := List.getElem?_eq_some_iff.1 h
  rw [List.take_succ_eq_append_getElem hk, List.all_append]
  simp
theorem allK_not {α : Type} {l : List α} {k : Nat} {x : α} (h : l[k]? = some x) {p : α → Bool} (hp : p x = false) : l.all p = false := by
  rw [List.all_eq_false]
  exact ⟨x, List.mem_of_getElem? h, by simp [hp]⟩
set_option maxRecDepth 100000 in
set_option maxHeartbeats 4000000 in
theorem areFrom_c (lo hi : Int) (l : List Int) (hl : l.length ≤ 1000000) : ACall Try.prog 78 [iD lo, iD hi, intL l] (bD (fromK lo hi l)) := by
  obtain ⟨r, hr⟩ : ∃ r, r = fromK lo hi l := ⟨_, rfl⟩
  rw [← hr]
  refine acallK tabOk Try.func78 rfl rfl (show 3 ≤ _ by decide) rfl fun _ => ?_; simp only [Try.ntmps78]
  repeat (first | (with_reducible first | refine zq1 fun _ => ?_ | refine zq2 fun _ => ?_ | refine zq3 ?_) | ((first | refine zq4 ?_ | refine zq5 fun _ _ => ?_ | refine zq6 ?_); simp [-getElem?_pos, z0, z1, z2, ]) | ((first | refine AWp.ret ?_ | refine AWp.skip ?_ | refine AWp.exit ?_); try simp only [thenP]) | (with_reducible refine zq7 ?_; simp only [blockP, thenP, reduceIte]) | with_reducible refine zq8 ?_)
  refine AWp.loopK (ι := { k : Nat // k ≤ l.length ∧ fromK lo hi (l.take k) = true }) (n := 0) (fun k => [(0, .d (iD lo)), (1, .d (iD hi)), (9, .d (intL l)), (10, .d (iD l.length)), (11, .d (iD k.1))]) (fun _ => []) (fun k => l.length - k.1) ⟨0, Nat.zero_le _, by simp [fromK]⟩ [] ?_ ?_
  · refine ⟨by rfl, by simp [], by simp [or_imp, forall_and, ] <;> (try (intro _hne; simp [_hne])), by decide⟩
  rintro ⟨k, hk, hall⟩ kk
  have w1 : IntKind.i64.wrap ((k : Int) + 1) = (k : Int) + 1 := wrap64_in (by omega)
  by_cases hlt : k < l.length
  · obtain ⟨x, hx⟩ : ∃ x, l[k]? = some x := ⟨_, List.getElem?_eq_getElem hlt⟩
    by_cases g : x < lo
    · have hr' : r = false := by rw [hr]; exact allK_not hx (p := fun x => inK x lo hi) (decide_eq_false fun h => by omega)
      repeat (first | (with_reducible first | refine zq1 fun _ => ?_ | refine zq2 fun _ => ?_ | refine zq3 ?_) | ((first | refine zq4 ?_ | refine zq5 fun _ _ => ?_ | refine zq6 ?_); simp [-getElem?_pos, z0, z1, z2, hlt, hx, g]) | ((first | refine AWp.ret ?_ | refine AWp.skip ?_ | refine AWp.exit ?_); try simp only [thenP]) | (with_reducible refine zq7 ?_; simp only [blockP, thenP, reduceIte]) | with_reducible refine zq8 ?_)
      (first | refine RR.ret ?_ | refine RR.normal ?_); simp [hr']
    by_cases g2 : hi < x
    · have hr' : r = false := by rw [hr]; exact allK_not hx (p := fun x => inK x lo hi) (decide_eq_false fun h => by omega)
      repeat (first | (with_reducible first | refine zq1 fun _ => ?_ | refine zq2 fun _ => ?_ | refine zq3 ?_) | ((first | refine zq4 ?_ | refine zq5 fun _ _ => ?_ | refine zq6 ?_); simp [-getElem?_pos, z0, z1, z2, hlt, hx, g, g2]) | ((first | refine AWp.ret ?_ | refine AWp.skip ?_ | refine AWp.exit ?_); try simp only [thenP]) | (with_reducible refine zq7 ?_; simp only [blockP, thenP, reduceIte]) | with_reducible refine zq8 ?_)
      (first | refine RR.ret ?_ | refine RR.normal ?_); simp [hr']
    · have hall2 : fromK lo hi (l.take (k + 1)) = true := by
        unfold fromK at hall ⊢
        rw [allK_take hx, hall, Bool.true_and]
        exact decide_eq_true ⟨by omega, by omega⟩
      repeat (first | (with_reducible first | refine zq1 fun _ => ?_ | refine zq2 fun _ => ?_ | refine zq3 ?_) | ((first | refine zq4 ?_ | refine zq5 fun _ _ => ?_ | refine zq6 ?_); simp [-getElem?_pos, z0, z1, z2, hlt, hx, g, g2, w1]) | ((first | refine AWp.ret ?_ | refine AWp.skip ?_ | refine AWp.exit ?_); try simp only [thenP]) | (with_reducible refine zq7 ?_; simp only [blockP, thenP, reduceIte]) | with_reducible refine zq8 ?_)
      refine LL.go ⟨k + 1, hlt, hall2⟩ [] ⟨by rfl, by simp [], by simp [or_imp, forall_and, ] <;> (try (intro _hne; simp [_hne])), by decide⟩ ?_
      simp; omega
  · obtain rfl : k = l.length := by omega
    rw [List.take_of_length_le (Nat.le_refl _)] at hall
    have hr' : r = true := hr.trans hall
    repeat (first | (with_reducible first | refine zq1 fun _ => ?_ | refine zq2 fun _ => ?_ | refine zq3 ?_) | ((first | refine zq4 ?_ | refine zq5 fun _ _ => ?_ | refine zq6 ?_); simp [-getElem?_pos, z0, z1, z2, hlt]) | ((first | refine AWp.ret ?_ | refine AWp.skip ?_ | refine AWp.exit ?_); try simp only [thenP]) | (with_reducible refine zq7 ?_; simp only [blockP, thenP, reduceIte]) | with_reducible refine zq8 ?_)
    (first | refine RR.ret ?_ | refine RR.normal ?_); simp [hr']
def stnC (t : CSt) : Bool := fromK 0 1000 [t.at_] && (fromK (-1000) 1000 [t.lo, t.hi] && decide (t.lo ≤ t.hi))
theorem stnC_iff (t : CSt) : stnC t = true ↔ (0 ≤ t.at_ ∧ t.at_ ≤ 1000) ∧ -1000 ≤ t.lo ∧ t.lo ≤ t.hi ∧ t.hi ≤ 1000 := by
  simp [stnC, fromK, inK]
  omega
set_option maxRecDepth 100000 in
set_option maxHeartbeats 4000000 in
theorem isStation_c (t : CSt) : ACall Try.prog 56 [cstD t] (bD (stnC t)) := by
  have c1 : ACall Try.prog 78 [iD 0, iD 1000, .list [[iD t.at_]]] (bD (fromK 0 1000 [t.at_])) := areFrom_c 0 1000 [t.at_] (by simp)
  have c2 : ACall Try.prog 78 [iD (-1000), iD 1000, .list [[iD t.lo], [iD t.hi]]] (bD (fromK (-1000) 1000 [t.lo, t.hi])) := areFrom_c (-1000) 1000 [t.lo, t.hi] (by simp)
  obtain ⟨r, hr⟩ : ∃ r, r = stnC t := ⟨_, rfl⟩
  rw [← hr]
  unfold stnC at hr
  rcases g1 : fromK 0 1000 [t.at_] <;> rw [g1] at c1 hr
  · have hr' : r = false := by rw [hr, Bool.false_and]
    refine acallK tabOk Try.func56 rfl rfl (show 1 ≤ _ by decide) rfl fun _ => ?_; simp only [Try.ntmps56]
    repeat (first | (with_reducible first | refine zq1 fun _ => ?_ | refine zq2 fun _ => ?_ | refine zq3 ?_) | ((first | refine zq4 ?_ | refine zq5 fun _ _ => ?_ | refine zq6 ?_); simp [-getElem?_pos, z0, z1, z2, ]) | ((first | refine AWp.ret ?_ | refine AWp.skip ?_ | refine AWp.exit ?_); try simp only [thenP]) | (with_reducible refine zq7 ?_; simp only [blockP, thenP, reduceIte]) | with_reducible refine zq8 ?_)
    (first | refine Exec0.call [4] c1 ?_ rfl ?_ ?_ | refine Exec.call [4] c1 ?_ rfl ?_ ?_); (focus simp [-getElem?_pos, ]); (focus simp [-getElem?_pos, z0, z1, z2, ]); simp [-getElem?_pos, z0, z1, z2, ]
    repeat (first | (with_reducible first | refine zq1 fun _ => ?_ | refine zq2 fun _ => ?_ | refine zq3 ?_) | ((first | refine zq4 ?_ | refine zq5 fun _ _ => ?_ | refine zq6 ?_); simp [-getElem?_pos, z0, z1, z2, ]) | ((first | refine AWp.ret ?_ | refine AWp.skip ?_ | refine AWp.exit ?_); try simp only [thenP]) | (with_reducible refine zq7 ?_; simp only [blockP, thenP, reduceIte]) | with_reducible refine zq8 ?_)
    (first | refine RR.ret ?_ | refine RR.normal ?_); simp [hr']
  rcases g2 : fromK (-1000) 1000 [t.lo, t.hi] <;> rw [g2] at c2 hr
  · have hr' : r = false := by rw [hr]; rfl
    refine acallK tabOk Try.func56 rfl rfl (show 1 ≤ _ by decide) rfl fun _ => ?_; simp only [Try.ntmps56]
    repeat (first | (with_reducible first | refine zq1 fun _ => ?_ | refine zq2 fun _ => ?_ | refine zq3 ?_) | ((first | refine zq4 ?_ | refine zq5 fun _ _ => ?_ | refine zq6 ?_); simp [-getElem?_pos, z0, z1, z2, ]) | ((first | refine AWp.ret ?_ | refine AWp.skip ?_ | refine AWp.exit ?_); try simp only [thenP]) | (with_reducible refine zq7 ?_; simp only [blockP, thenP, reduceIte]) | with_reducible refine zq8 ?_)
    (first | refine Exec0.call [4] c1 ?_ rfl ?_ ?_ | refine Exec.call [4] c1 ?_ rfl ?_ ?_); (focus simp [-getElem?_pos, ]); (focus simp [-getElem?_pos, z0, z1, z2, ]); simp [-getElem?_pos, z0, z1, z2, ]
    repeat (first | (with_reducible first | refine zq1 fun _ => ?_ | refine zq2 fun _ => ?_ | refine zq3 ?_) | ((first | refine zq4 ?_ | refine zq5 fun _ _ => ?_ | refine zq6 ?_); simp [-getElem?_pos, z0, z1, z2, ]) | ((first | refine AWp.ret ?_ | refine AWp.skip ?_ | refine AWp.exit ?_); try simp only [thenP]) | (with_reducible refine zq7 ?_; simp only [blockP, thenP, reduceIte]) | with_reducible refine zq8 ?_)
    (first | refine Exec0.call [13] c2 ?_ rfl ?_ ?_ | refine Exec.call [13] c2 ?_ rfl ?_ ?_); (focus simp [-getElem?_pos, ]); (focus simp [-getElem?_pos, z0, z1, z2, ]); simp [-getElem?_pos, z0, z1, z2, ]
    repeat (first | (with_reducible first | refine zq1 fun _ => ?_ | refine zq2 fun _ => ?_ | refine zq3 ?_) | ((first | refine zq4 ?_ | refine zq5 fun _ _ => ?_ | refine zq6 ?_); simp [-getElem?_pos, z0, z1, z2, ]) | ((first | refine AWp.ret ?_ | refine AWp.skip ?_ | refine AWp.exit ?_); try simp only [thenP]) | (with_reducible refine zq7 ?_; simp only [blockP, thenP, reduceIte]) | with_reducible refine zq8 ?_)
    (first | refine RR.ret ?_ | refine RR.normal ?_); simp [hr']
  · by_cases g3 : t.lo ≤ t.hi
    · have hr' : r = true := by rw [hr, decide_eq_true g3]; rfl
      refine acallK tabOk Try.func56 rfl rfl (show 1 ≤ _ by decide) rfl fun _ => ?_; simp only [Try.ntmps56]
      repeat (first | (with_reducible first | refine zq1 fun _ => ?_ | refine zq2 fun _ => ?_ | refine zq3 ?_) | ((first | refine zq4 ?_ | refine zq5 fun _ _ => ?_ | refine zq6 ?_); simp [-getElem?_pos, z0, z1, z2, ]) | ((first | refine AWp.ret ?_ | refine AWp.skip ?_ | refine AWp.exit ?_); try simp only [thenP]) | (with_reducible refine zq7 ?_; simp only [blockP, thenP, reduceIte]) | with_reducible refine zq8 ?_)
      (first | refine Exec0.call [4] c1 ?_ rfl ?_ ?_ | refine Exec.call [4] c1 ?_ rfl ?_ ?_); (focus simp [-getElem?_pos, ]); (focus simp [-getElem?_pos, z0, z1, z2, ]); simp [-getElem?_pos, z0, z1, z2, ]
      repeat (first | (with_reducible first | refine zq1 fun _ => ?_ | refine zq2 fun _ => ?_ | refine zq3 ?_) | ((first | refine zq4 ?_ | refine zq5 fun _ _ => ?_ | refine zq6 ?_); simp [-getElem?_pos, z0, z1, z2, ]) | ((first | refine AWp.ret ?_ | refine AWp.skip ?_ | refine AWp.exit ?_); try simp only [thenP]) | (with_reducible refine zq7 ?_; simp only [blockP, thenP, reduceIte]) | with_reducible refine zq8 ?_)
      (first | refine Exec0.call [13] c2 ?_ rfl ?_ ?_ | refine Exec.call [13] c2 ?_ rfl ?_ ?_); (focus simp [-getElem?_pos, g3]); (focus simp [-getElem?_pos, z0, z1, z2, g3]); simp [-getElem?_pos, z0, z1, z2, g3]
      repeat (first | (with_reducible first | refine zq1 fun _ => ?_ | refine zq2 fun _ => ?_ | refine zq3 ?_) | ((first | refine zq4 ?_ | refine zq5 fun _ _ => ?_ | refine zq6 ?_); simp [-getElem?_pos, z0, z1, z2, g3]) | ((first | refine AWp.ret ?_ | refine AWp.skip ?_ | refine AWp.exit ?_); try simp only [thenP]) | (with_reducible refine zq7 ?_; simp only [blockP, thenP, reduceIte]) | with_reducible refine zq8 ?_)
      (first | refine RR.ret ?_ | refine RR.normal ?_); simp [hr']
    · have hr' : r = false := by rw [hr, decide_eq_false g3]; rfl
      refine acallK tabOk Try.func56 rfl rfl (show 1 ≤ _ by decide) rfl fun _ => ?_; simp only [Try.ntmps56]
      repeat (first | (with_reducible first | refine zq1 fun _ => ?_ | refine zq2 fun _ => ?_ | refine zq3 ?_) | ((first | refine zq4 ?_ | refine zq5 fun _ _ => ?_ | refine zq6 ?_); simp [-getElem?_pos, z0, z1, z2, ]) | ((first | refine AWp.ret ?_ | refine AWp.skip ?_ | refine AWp.exit ?_); try simp only [thenP]) | (with_reducible refine zq7 ?_; simp only [blockP, thenP, reduceIte]) | with_reducible refine zq8 ?_)
      (first | refine Exec0.call [4] c1 ?_ rfl ?_ ?_ | refine Exec.call [4] c1 ?_ rfl ?_ ?_); (focus simp [-getElem?_pos, ]); (focus simp [-getElem?_pos, z0, z1, z2, ]); simp [-getElem?_pos, z0, z1, z2, ]
      repeat (first | (with_reducible first | refine zq1 fun _ => ?_ | refine zq2 fun _ => ?_ | refine zq3 ?_) | ((first | refine zq4 ?_ | refine zq5 fun _ _ => ?_ | refine zq6 ?_); simp [-getElem?_pos, z0, z1, z2, ]) | ((first | refine AWp.ret ?_ | refine AWp.skip ?_ | refine AWp.exit ?_); try simp only [thenP]) | (with_reducible refine zq7 ?_; simp only [blockP, thenP, reduceIte]) | with_reducible refine zq8 ?_)
      (first | refine Exec0.call [13] c2 ?_ rfl ?_ ?_ | refine Exec.call [13] c2 ?_ rfl ?_ ?_); (focus simp [-getElem?_pos, g3]); (focus simp [-getElem?_pos, z0, z1, z2, g3]); simp [-getElem?_pos, z0, z1, z2, g3]
      repeat (first | (with_reducible first | refine zq1 fun _ => ?_ | refine zq2 fun _ => ?_ | refine zq3 ?_) | ((first | refine zq4 ?_ | refine zq5 fun _ _ => ?_ | refine zq6 ?_); simp [-getElem?_pos, z0, z1, z2, g3]) | ((first | refine AWp.ret ?_ | refine AWp.skip ?_ | refine AWp.exit ?_); try simp only [thenP]) | (with_reducible refine zq7 ?_; simp only [blockP, thenP, reduceIte]) | with_reducible refine zq8 ?_)
      (first | refine RR.ret ?_ | refine RR.normal ?_); simp [hr']
def okAt (l : List CSt) (k : Nat) : Bool := match l[k]? with
  | some t => stnC t && match k with
    | 0 => true
    | j + 1 => match l[j]? with
      | some p => decide (p.at_ < t.at_)
      | none => true
  | none => true
def okTo (l : List CSt) (k : Nat) : Bool := (List.range k).all (okAt l)
theorem okTo_succ (l : List CSt) (k : Nat) : okTo l (k + 1) = (okTo l k && okAt l k) := by simp [okTo, List.range_succ]
theorem okTo_not {l : List CSt} {k : Nat} (h : okAt l k = false) (n : Nat) (hn : k < n) : okTo l n = false := by
  unfold okTo
  rw [List.all_eq_false]
  exact ⟨k, List.mem_range.2 hn, by simp [h]⟩
def pairErr (l : List CSt) : Int := if l.length < 1 ∨ 25 < l.length then 6 else if okTo l l.length = true then 0 else 3
set_option maxRecDepth 100000 in
set_option maxHeartbeats 8000000 in
theorem checkPair_c (l : List CSt) : ACall Try.prog 19 [pairD l] (iD (pairErr l)) := by
  obtain ⟨r, hr⟩ : ∃ r, r = pairErr l := ⟨_, rfl⟩
  rw [← hr]
  by_cases h1 : l.length < 1
  · have h1' : l.length = 0 := by omega
    have h1'' : l = [] := List.eq_nil_of_length_eq_zero h1'
    have hr' : r = 6 := by rw [hr, pairErr, if_pos (.inl h1)]
    refine acallK tabOk Try.func19 rfl rfl (show 1 ≤ _ by decide) rfl fun _ => ?_; simp only [Try.ntmps19]
    repeat (first | (with_reducible first | refine zq1 fun _ => ?_ | refine zq2 fun _ => ?_ | refine zq3 ?_) | ((first | refine zq4 ?_ | refine zq5 fun _ _ => ?_ | refine zq6 ?_); simp [-getElem?_pos, z0, z1, z2, h1', h1'']) | ((first | refine AWp.ret ?_ | refine AWp.skip ?_ | refine AWp.exit ?_); try simp only [thenP]) | (with_reducible refine zq7 ?_; simp only [blockP, thenP, reduceIte]) | with_reducible refine zq8 ?_)
    (first | refine RR.ret ?_ | refine RR.normal ?_); simp [hr']
  have h1' : ¬ ((l.length : Int) < 1) := by omega
  by_cases h2 : 25 < l.length
  · have h2' : (25 : Int) < l.length := by omega
    have hr' : r = 6 := by rw [hr, pairErr, if_pos (.inr h2)]
    refine acallK tabOk Try.func19 rfl rfl (show 1 ≤ _ by decide) rfl fun _ => ?_; simp only [Try.ntmps19]
    repeat (first | (with_reducible first | refine zq1 fun _ => ?_ | refine zq2 fun _ => ?_ | refine zq3 ?_) | ((first | refine zq4 ?_ | refine zq5 fun _ _ => ?_ | refine zq6 ?_); simp [-getElem?_pos, z0, z1, z2, h1', h2']) | ((first | refine AWp.ret ?_ | refine AWp.skip ?_ | refine AWp.exit ?_); try simp only [thenP]) | (with_reducible refine zq7 ?_; simp only [blockP, thenP, reduceIte]) | with_reducible refine zq8 ?_)
    (first | refine RR.ret ?_ | refine RR.normal ?_); simp [hr']
  have h2' : ¬ (25 : Int) < l.length := by omega
  rw [pairErr, if_neg (by omega)] at hr
  refine acallK tabOk Try.func19 rfl rfl (show 1 ≤ _ by decide) rfl fun _ => ?_; simp only [Try.ntmps19]
  repeat (first | (with_reducible first | refine zq1 fun _ => ?_ | refine zq2 fun _ => ?_ | refine zq3 ?_) | ((first | refine zq4 ?_ | refine zq5 fun _ _ => ?_ | refine zq6 ?_); simp [-getElem?_pos, z0, z1, z2, h1', h2']) | ((first | refine AWp.ret ?_ | refine AWp.skip ?_ | refine AWp.exit ?_); try simp only [thenP]) | (with_reducible refine zq7 ?_; simp only [blockP, thenP, reduceIte]) | with_reducible refine zq8 ?_)
  refine AWp.loopK (ι := { k : Nat // k ≤ l.length ∧ okTo l k = true }) (n := 0) (fun k => [(0, .d (pairD l)), (13, .d (pairD l)), (14, .d (iD l.length)), (15, .d (iD k.1))]) (fun _ => []) (fun k => l.length - k.1) ⟨0, Nat.zero_le _, by simp [okTo]⟩ [] ?_ ?_
  · refine ⟨by rfl, by simp [], by simp [or_imp, forall_and, ] <;> (try (intro _hne; simp [_hne])), by decide⟩
  rintro ⟨k, hk, hall⟩ kk
  have w1 : IntKind.i64.wrap ((k : Int) + 1) = (k : Int) + 1 := wrap64_in (by omega)
  by_cases hlt : k < l.length
  · obtain ⟨t, ht⟩ : ∃ t, l[k]? = some t := ⟨_, List.getElem?_eq_getElem hlt⟩
    have ci := isStation_c t
    rcases g : stnC t <;> rw [g] at ci
    · have hr' : r = 3 := by rw [hr, okTo_not (by simp [okAt, ht, g]) _ hlt]; rfl
      repeat (first | (with_reducible first | refine zq1 fun _ => ?_ | refine zq2 fun _ => ?_ | refine zq3 ?_) | ((first | refine zq4 ?_ | refine zq5 fun _ _ => ?_ | refine zq6 ?_); simp [-getElem?_pos, z0, z1, z2, hlt, ht]) | ((first | refine AWp.ret ?_ | refine AWp.skip ?_ | refine AWp.exit ?_); try simp only [thenP]) | (with_reducible refine zq7 ?_; simp only [blockP, thenP, reduceIte]) | with_reducible refine zq8 ?_)
      (first | refine Exec0.call [] ci ?_ rfl ?_ ?_ | refine Exec.call [] ci ?_ rfl ?_ ?_); (focus simp [-getElem?_pos, ht]); (focus simp [-getElem?_pos, z0, z1, z2, ht]); simp [-getElem?_pos, z0, z1, z2, ht]
      repeat (first | (with_reducible first | refine zq1 fun _ => ?_ | refine zq2 fun _ => ?_ | refine zq3 ?_) | ((first | refine zq4 ?_ | refine zq5 fun _ _ => ?_ | refine zq6 ?_); simp [-getElem?_pos, z0, z1, z2, ]) | ((first | refine AWp.ret ?_ | refine AWp.skip ?_ | refine AWp.exit ?_); try simp only [thenP]) | (with_reducible refine zq7 ?_; simp only [blockP, thenP, reduceIte]) | with_reducible refine zq8 ?_)
      (first | refine RR.ret ?_ | refine RR.normal ?_); simp [hr']
    · cases k with
      | zero =>
        have ho : okTo l (0 + 1) = true := by rw [okTo_succ, hall]; simp [okAt, ht, g]
        repeat (first | (with_reducible first | refine zq1 fun _ => ?_ | refine zq2 fun _ => ?_ | refine zq3 ?_) | ((first | refine zq4 ?_ | refine zq5 fun _ _ => ?_ | refine zq6 ?_); simp [-getElem?_pos, z0, z1, z2, hlt, ht]) | ((first | refine AWp.ret ?_ | refine AWp.skip ?_ | refine AWp.exit ?_); try simp only [thenP]) | (with_reducible refine zq7 ?_; simp only [blockP, thenP, reduceIte]) | with_reducible refine zq8 ?_)
        (first | refine Exec0.call [] ci ?_ rfl ?_ ?_ | refine Exec.call [] ci ?_ rfl ?_ ?_); (focus simp [-getElem?_pos, ht]); (focus simp [-getElem?_pos, z0, z1, z2, ht]); simp [-getElem?_pos, z0, z1, z2, ht]
        have w01 : IntKind.i64.wrap 1 = 1 := by decide
        repeat (first | (with_reducible first | refine zq1 fun _ => ?_ | refine zq2 fun _ => ?_ | refine zq3 ?_) | ((first | refine zq4 ?_ | refine zq5 fun _ _ => ?_ | refine zq6 ?_); simp [-getElem?_pos, z0, z1, z2, w1, w01]) | ((first | refine AWp.ret ?_ | refine AWp.skip ?_ | refine AWp.exit ?_); try simp only [thenP]) | (with_reducible refine zq7 ?_; simp only [blockP, thenP, reduceIte]) | with_reducible refine zq8 ?_)
        refine LL.go ⟨0 + 1, hlt, ho⟩ [] ⟨by rfl, by simp [w01], by simp [or_imp, forall_and, w01] <;> (try (intro _hne; simp [_hne])), by decide⟩ ?_
        simp; omega
      | succ j =>
        obtain ⟨p, hp⟩ : ∃ p, l[j]? = some p := ⟨_, List.getElem?_eq_getElem (by omega)⟩
        have w0 : IntKind.i64.wrap (((j + 1 : Nat) : Int) - 1) = (j : Int) := (wrap64_in (by omega)).trans (by omega)
        have p0 : (0 : Int) < ((j + 1 : Nat) : Int) := by omega
        have l0 : j < l.length := by omega
        have hlt' : (j : Int) + 1 < l.length := by omega
        have wj : IntKind.i64.wrap (j : Int) = (j : Int) := wrap64_in (by omega)
        have tn : ((j : Int) + 1).toNat = j + 1 := by omega
        have n0 : 0 ≤ (j : Int) + 1 := by omega
        have w0' : IntKind.i64.wrap ((j : Int) + 1 - 1) = (j : Int) := (wrap64_in (by omega)).trans (by omega)
        have p0' : (0 : Int) < (j : Int) + 1 := by omega
        have w1' : IntKind.i64.wrap ((j : Int) + 1 + 1) = (j : Int) + 1 + 1 := wrap64_in (by omega)
        by_cases g2 : t.at_ ≤ p.at_
        · have hr' : r = 3 := by rw [hr, okTo_not (k := j + 1) (by simp [okAt, ht, g, hp]; omega) _ hlt]; rfl
          repeat (first | (with_reducible first | refine zq1 fun _ => ?_ | refine zq2 fun _ => ?_ | refine zq3 ?_) | ((first | refine zq4 ?_ | refine zq5 fun _ _ => ?_ | refine zq6 ?_); simp [-getElem?_pos, z0, z1, z2, hlt, ht, hlt', tn, n0]) | ((first | refine AWp.ret ?_ | refine AWp.skip ?_ | refine AWp.exit ?_); try simp only [thenP]) | (with_reducible refine zq7 ?_; simp only [blockP, thenP, reduceIte]) | with_reducible refine zq8 ?_)
          (first | refine Exec0.call [] ci ?_ rfl ?_ ?_ | refine Exec.call [] ci ?_ rfl ?_ ?_); (focus simp [-getElem?_pos, ht, hp, wj, p0', l0, g2]); (focus simp [-getElem?_pos, z0, z1, z2, ht, hp, wj, p0', l0, g2]); simp [-getElem?_pos, z0, z1, z2, ht, hp, wj, p0', l0, g2]
          repeat (first | (with_reducible first | refine zq1 fun _ => ?_ | refine zq2 fun _ => ?_ | refine zq3 ?_) | ((first | refine zq4 ?_ | refine zq5 fun _ _ => ?_ | refine zq6 ?_); simp [-getElem?_pos, z0, z1, z2, w1]) | ((first | refine AWp.ret ?_ | refine AWp.skip ?_ | refine AWp.exit ?_); try simp only [thenP]) | (with_reducible refine zq7 ?_; simp only [blockP, thenP, reduceIte]) | with_reducible refine zq8 ?_)
          (first | refine RR.ret ?_ | refine RR.normal ?_); simp [hr']
        · have ho : okTo l (j + 1 + 1) = true := by rw [okTo_succ, hall]; simp [okAt, ht, g, hp]; omega
          repeat (first | (with_reducible first | refine zq1 fun _ => ?_ | refine zq2 fun _ => ?_ | refine zq3 ?_) | ((first | refine zq4 ?_ | refine zq5 fun _ _ => ?_ | refine zq6 ?_); simp [-getElem?_pos, z0, z1, z2, hlt, ht, hlt', tn, n0]) | ((first | refine AWp.ret ?_ | refine AWp.skip ?_ | refine AWp.exit ?_); try simp only [thenP]) | (with_reducible refine zq7 ?_; simp only [blockP, thenP, reduceIte]) | with_reducible refine zq8 ?_)
          (first | refine Exec0.call [] ci ?_ rfl ?_ ?_ | refine Exec.call [] ci ?_ rfl ?_ ?_); (focus simp [-getElem?_pos, ht, hp, wj, p0', l0, g2]); (focus simp [-getElem?_pos, z0, z1, z2, ht, hp, wj, p0', l0, g2]); simp [-getElem?_pos, z0, z1, z2, ht, hp, wj, p0', l0, g2]
          repeat (first | (with_reducible first | refine zq1 fun _ => ?_ | refine zq2 fun _ => ?_ | refine zq3 ?_) | ((first | refine zq4 ?_ | refine zq5 fun _ _ => ?_ | refine zq6 ?_); simp [-getElem?_pos, z0, z1, z2, w1, w1']) | ((first | refine AWp.ret ?_ | refine AWp.skip ?_ | refine AWp.exit ?_); try simp only [thenP]) | (with_reducible refine zq7 ?_; simp only [blockP, thenP, reduceIte]) | with_reducible refine zq8 ?_)
          refine LL.go ⟨j + 1 + 1, hlt, ho⟩ [] ⟨by rfl, by simp [], by simp [or_imp, forall_and, ] <;> (try (intro _hne; simp [_hne])), by decide⟩ ?_
          simp; omega
  · obtain rfl : k = l.length := by omega
    have hr' : r = 0 := by rw [hr, if_pos hall]
    repeat (first | (with_reducible first | refine zq1 fun _ => ?_ | refine zq2 fun _ => ?_ | refine zq3 ?_) | ((first | refine zq4 ?_ | refine zq5 fun _ _ => ?_ | refine zq6 ?_); simp [-getElem?_pos, z0, z1, z2, hlt]) | ((first | refine AWp.ret ?_ | refine AWp.skip ?_ | refine AWp.exit ?_); try simp only [thenP]) | (with_reducible refine zq7 ?_; simp only [blockP, thenP, reduceIte]) | with_reducible refine zq8 ?_)
    (first | refine RR.ret ?_ | refine RR.normal ?_); simp [hr']
end Go.Proofs.Ytjjoiihgpkhndaa.Eng


namespace Go.Proofs.Ytjjoiihgpkhndaa.Eng
open Go.RowKit
abbrev spotRow (s : Spot) : List Dat := [iD s.at_, iD s.lo, iD s.hi, iD s.name]
abbrev spotD (s : Spot) : Dat := .agg [iD s.at_, iD s.lo, iD s.hi, iD s.name]
def spotRows (l : List Spot) : List (List Dat) := l.map spotRow
@[simp] theorem spotRows_len (l : List Spot) : (spotRows l).length = l.length := List.length_map _
@[simp] theorem spotRows_get (l : List Spot) (i : Nat) : (spotRows l)[i]? = (l[i]?).map spotRow := List.getElem?_map
@[simp] theorem spotRows_app (l : List Spot) (s : Spot) : spotRows l ++ [[iD s.at_, iD s.lo, iD s.hi, iD s.name]] = spotRows (l ++ [s]) := by simp [spotRows]
@[simp] theorem spotRows_each (l : List Spot) : (∀ r ∈ spotRows l, r.length = 4) = True := by simp [spotRows]
@[simp] theorem spotRows_nil : spotRows [] = [] := rfl
set_option maxRecDepth 100000 in
set_option maxHeartbeats 4000000 in
theorem grownSpot_c (L : List Spot) (s : Spot) (hl : L.length ≤ 1000) : ACall Try.prog 103 [.list (spotRows L), spotD s] (.list (spotRows (L ++ [s]))) := by
  have b1 : fitsB (L.length + 1) 32 = true := fitsB_small (by omega) (by omega)
  refine acallK tabOk Try.func103 rfl rfl (show 2 ≤ _ by decide) rfl fun _ => ?_; simp only [Try.ntmps103]
  repeat (first | (with_reducible first | refine zq1 fun _ => ?_ | refine zq2 fun _ => ?_ | refine zq3 ?_) | ((first | refine zq4 ?_ | refine zq5 fun _ _ => ?_ | refine zq6 ?_); simp [-getElem?_pos, z0, z1, z2, b1]) | ((first | refine AWp.ret ?_ | refine AWp.skip ?_ | refine AWp.exit ?_); try simp only [thenP]) | (with_reducible refine zq7 ?_; simp only [blockP, thenP, reduceIte]) | with_reducible refine zq8 ?_)
  (first | refine RR.ret ?_ | refine RR.normal ?_); simp []
def rowQ (h : List (Int × Int)) : List Dat := h.flatMap fun q => [iD q.1, iD q.2]
def pairB (x : SV) (h : List (Int × Int)) : Blk := .box 93 (x :: (rowQ h).map SV.d) false
def noH : List (Int × Int) := List.replicate 25 (0, 0)
theorem zerPair : Blk.box 93 (List.map cSV zer93) false = pairB .nilS noH := rfl
def spotsC : List Spot → SV
  | [] => .nilS
  | x :: l => .d (.list (spotRows (x :: l)))
theorem spotsC_nil : spotsC [] = .nilS := rfl
theorem spotsC_cons (x : Spot) (l : List Spot) : spotsC (x :: l) = .d (.list (spotRows (x :: l))) := rfl
theorem spotsC_app (l : List Spot) (x : Spot) : spotsC (l ++ [x]) = .d (.list (spotRows (l ++ [x]))) := by cases l <;> rfl
def spotOf (p : CSt × Nat) : Spot := ⟨p.1.at_, p.1.lo, p.1.hi, p.2⟩
def spots (l : List CSt) : List Spot := l.zipIdx.map spotOf
@[simp] theorem spots_len (l : List CSt) : (spots l).length = l.length := by simp [spots]
theorem spots_get {l : List CSt} {k : Nat} {t : CSt} (h : l[k]? = some t) : (spots l)[k]? = some ⟨t.at_, t.lo, t.hi, k⟩ := by simp [spots, h, spotOf]
theorem spots_succ {l : List CSt} {k : Nat} {t : CSt} (h : l[k]? = some t) : (spots l).take (k + 1) = (spots l).take k ++ [⟨t.at_, t.lo, t.hi, k⟩] := by
  have h1 := spots_get h
  obtain ⟨hk, e⟩ := List.getElem?_eq_some_iff.1 h1
  rw [List.take_succ_eq_append_getElem hk, e]
set_option maxRecDepth 100000 in
set_option maxHeartbeats 8000000 in
theorem newPair_w (l : List CSt) (hl : l.length ≤ 25) (n : Nat) (m : Mem) : CWp Try.prog 94 [.d (pairD l)] n m fun y n' m' => ∃ k, n ≤ k ∧ k < n' ∧ y = .ptr k 0 0 ∧ m' k = some (pairB (spotsC (spots l)) noH) ∧ ∀ j, j < n → m' j = m j := by
  refine cwpK tabOk Try.func94 rfl rfl (show 1 ≤ _ by decide) rfl fun _ => ?_; simp only [Try.ntmps94]
  repeat (first | (with_reducible first | refine AWi.seqK fun _ => ?_ | refine AWi.blockK fun _ => ?_ | refine KI.go ?_) | ((first | refine AWi.region tabOk ?_ | refine AWi.condK fun _ _ => ?_ | refine AWi.draws tabOk rfl (by kernel_rfl) (by kernel_rfl) ?_); simp [-getElem?_pos, z0, z1, z2, zerPair]) | ((first | refine AWi.ret ?_ | refine AWi.skip ?_ | refine AWi.exit ?_); try simp only [thenP]) | (with_reducible refine BB.go ?_; simp only [blockP, thenP, reduceIte]) | (with_reducible refine And.intro (okLog_c (by simp [footOf, guardSlot, slotsOf, idsRead, looks, idsOf, idsOf1, idsWritten, colF]; kernel_rfl)) ?_))
  refine AWi.loopK (fun (k : { k : Nat // k ≤ l.length }) n1 s => n + 7 ≤ n1 ∧ s.slots 3 = .ptr (n + 1 + 1) 0 0 ∧ s.slots 8 = .d (pairD l) ∧ s.slots 9 = .d (iD l.length) ∧ s.slots 10 = .d (iD k.1) ∧ s.mem (n + 1 + 1) = some (pairB (spotsC ((spots l).take k.1)) noH) ∧ ∀ j, j < n → s.mem j = m j) (fun k => l.length - k.1) ⟨0, Nat.zero_le _⟩ ?_ ?_
  · refine ⟨by omega, by simp, by simp, by simp, by simp, by simp [spotsC], fun j hj => ?_⟩
    simp [show ¬ j = n + 1 + 1 by omega]
  rintro ⟨k, hk⟩ n1 s ⟨h0, h1, h2, h3, h4, h5, h6⟩ kk
  have w1 : IntKind.i64.wrap ((k : Int) + 1) = (k : Int) + 1 := wrap64_in (by omega)
  simp only at h4 h5
  by_cases hlt : k < l.length
  · obtain ⟨t, ht⟩ : ∃ t, l[k]? = some t := ⟨_, List.getElem?_eq_getElem hlt⟩
    have hs := spots_succ ht
    have cg := grownSpot_c ((spots l).take k) ⟨t.at_, t.lo, t.hi, k⟩ (by simp; omega)
    have hta : spotsC ((spots l).take (k + 1)) = .d (.list (spotRows ((spots l).take k ++ [⟨t.at_, t.lo, t.hi, k⟩]))) := by rw [hs]; exact spotsC_app _ _
    generalize (spots l).take k = L at *
    have e1 : ¬ n = n1 + 1 + 1 := by omega
    cases L with
    | nil =>
      repeat (first | (with_reducible first | refine AWi.seqK fun _ => ?_ | refine AWi.blockK fun _ => ?_ | refine KI.go ?_) | ((first | refine AWi.region tabOk ?_ | refine AWi.condK fun _ _ => ?_ | refine AWi.draws tabOk rfl (by kernel_rfl) (by kernel_rfl) ?_); simp [-getElem?_pos, z0, z1, z2, h1, h2, h3, h4, h5, hlt, ht, spotsC_nil, pairB, e1]) | ((first | refine AWi.ret ?_ | refine AWi.skip ?_ | refine AWi.exit ?_); try simp only [thenP]) | (with_reducible refine BB.go ?_; simp only [blockP, thenP, reduceIte]) | (with_reducible refine And.intro (okLog_c (by simp [footOf, guardSlot, slotsOf, idsRead, looks, idsOf, idsOf1, idsWritten, colF]; kernel_rfl)) ?_))
      refine Exec.call [] cg ?_ rfl ?_ ?_; (focus simp [-getElem?_pos]); (focus simp [-getElem?_pos, z0, z1, z2, e1, h5, pairB]); simp [-getElem?_pos, z0, z1, z2, e1, h5, pairB]
      repeat (first | (with_reducible first | refine AWi.seqK fun _ => ?_ | refine AWi.blockK fun _ => ?_ | refine KI.go ?_) | ((first | refine AWi.region tabOk ?_ | refine AWi.condK fun _ _ => ?_ | refine AWi.draws tabOk rfl (by kernel_rfl) (by kernel_rfl) ?_); simp [-getElem?_pos, z0, z1, z2, e1, h5, pairB, h3, h4, w1]) | ((first | refine AWi.ret ?_ | refine AWi.skip ?_ | refine AWi.exit ?_); try simp only [thenP]) | (with_reducible refine BB.go ?_; simp only [blockP, thenP, reduceIte]) | (with_reducible refine And.intro (okLog_c (by simp [footOf, guardSlot, slotsOf, idsRead, looks, idsOf, idsOf1, idsWritten, colF]; kernel_rfl)) ?_))
      refine LI.go ⟨k + 1, hlt⟩ ⟨by omega, by simp [h1], by simp [h2], by simp [h3], by simp, by simp [hta, pairB, e1], fun j hj => ?_⟩ (by simp; omega)
      simp [show ¬ j = n + 1 + 1 by omega, show ¬ j = n1 + 1 + 1 + 1 + 1 by omega]
      exact h6 j hj
    | cons t0 o =>
      repeat (first | (with_reducible first | refine AWi.seqK fun _ => ?_ | refine AWi.blockK fun _ => ?_ | refine KI.go ?_) | ((first | refine AWi.region tabOk ?_ | refine AWi.condK fun _ _ => ?_ | refine AWi.draws tabOk rfl (by kernel_rfl) (by kernel_rfl) ?_); simp [-getElem?_pos, z0, z1, z2, h1, h2, h3, h4, h5, hlt, ht, spotsC_cons, pairB, e1]) | ((first | refine AWi.ret ?_ | refine AWi.skip ?_ | refine AWi.exit ?_); try simp only [thenP]) | (with_reducible refine BB.go ?_; simp only [blockP, thenP, reduceIte]) | (with_reducible refine And.intro (okLog_c (by simp [footOf, guardSlot, slotsOf, idsRead, looks, idsOf, idsOf1, idsWritten, colF]; kernel_rfl)) ?_))
      refine Exec.call [] cg ?_ rfl ?_ ?_; (focus simp [-getElem?_pos]); (focus simp [-getElem?_pos, z0, z1, z2, e1, h5, pairB]); simp [-getElem?_pos, z0, z1, z2, e1, h5, pairB]
      repeat (first | (with_reducible first | refine AWi.seqK fun _ => ?_ | refine AWi.blockK fun _ => ?_ | refine KI.go ?_) | ((first | refine AWi.region tabOk ?_ | refine AWi.condK fun _ _ => ?_ | refine AWi.draws tabOk rfl (by kernel_rfl) (by kernel_rfl) ?_); simp [-getElem?_pos, z0, z1, z2, e1, h5, pairB, h3, h4, w1]) | ((first | refine AWi.ret ?_ | refine AWi.skip ?_ | refine AWi.exit ?_); try simp only [thenP]) | (with_reducible refine BB.go ?_; simp only [blockP, thenP, reduceIte]) | (with_reducible refine And.intro (okLog_c (by simp [footOf, guardSlot, slotsOf, idsRead, looks, idsOf, idsOf1, idsWritten, colF]; kernel_rfl)) ?_))
      refine LI.go ⟨k + 1, hlt⟩ ⟨by omega, by simp [h1], by simp [h2], by simp [h3], by simp, by simp [hta, pairB, e1], fun j hj => ?_⟩ (by simp; omega)
      simp [show ¬ j = n + 1 + 1 by omega, show ¬ j = n1 + 1 + 1 + 1 + 1 by omega]
      exact h6 j hj
  · obtain rfl : k = l.length := by omega
    repeat (first | (with_reducible first | refine AWi.seqK fun _ => ?_ | refine AWi.blockK fun _ => ?_ | refine KI.go ?_) | ((first | refine AWi.region tabOk ?_ | refine AWi.condK fun _ _ => ?_ | refine AWi.draws tabOk rfl (by kernel_rfl) (by kernel_rfl) ?_); simp [-getElem?_pos, z0, z1, z2, h1, h2, h3, h4, h5, hlt]) | ((first | refine AWi.ret ?_ | refine AWi.skip ?_ | refine AWi.exit ?_); try simp only [thenP]) | (with_reducible refine BB.go ?_; simp only [blockP, thenP, reduceIte]) | (with_reducible refine And.intro (okLog_c (by simp [footOf, guardSlot, slotsOf, idsRead, looks, idsOf, idsOf1, idsWritten, colF]; kernel_rfl)) ?_))
    refine RI.ret rfl ⟨n + 1 + 1, by omega, by omega, rfl, ?_, h6⟩
    simp only [show (spots l).take l.length = spots l from List.take_of_length_le (by simp)] at h5
    exact h5
end Go.Proofs.Ytjjoiihgpkhndaa.Eng


namespace Go.Proofs.Ytjjoiihgpkhndaa.Eng
open Go.RowKit
def pairM (l : List CSt) (h : List (Int × Int)) : Blk := pairB (.d (.list (spotRows (spots l)))) h
theorem pairM_of {l : List CSt} (h : List (Int × Int)) (h0 : pairErr l = 0) : pairB (spotsC (spots l)) h = pairM l h := by
  have h1 : 1 ≤ l.length := by
    unfold pairErr at h0
    split at h0
    · cases h0
    · omega
  unfold pairM
  cases hs : spots l with
  | nil => have := congrArg List.length hs; simp at this; subst this; simp at h1
  | cons a b => rfl
set_option maxRecDepth 100000 in
set_option maxHeartbeats 4000000 in
theorem check_w (l : List CSt) (n : Nat) (m : Mem) : CWp Try.prog 68 [.d (pairD l)] n m fun y n' m' => n ≤ n' ∧ (∀ j, j < n → m' j = m j) ∧
    (pairErr l ≠ 0 ∧ y = .tup [.d (.val (.pointer none)), .d (iD (pairErr l))] ∨ pairErr l = 0 ∧ ∃ k, n ≤ k ∧ k < n' ∧ y = .tup [.ptr k 0 0, .d (iD 0)] ∧ m' k = some (pairM l noH)) := by
  have cp := checkPair_c l
  by_cases h0 : pairErr l = 0
  · have hl : l.length ≤ 25 := by
      unfold pairErr at h0
      split at h0
      · cases h0
      · omega
    rw [h0] at cp
    refine cwpK tabOk Try.func68 rfl rfl (show 1 ≤ _ by decide) rfl fun _ => ?_; simp only [Try.ntmps68]
    repeat (first | (with_reducible first | refine AWi.seqK fun _ => ?_ | refine AWi.blockK fun _ => ?_ | refine KI.go ?_) | ((first | refine AWi.region tabOk ?_ | refine AWi.condK fun _ _ => ?_ | refine AWi.draws tabOk rfl (by kernel_rfl) (by kernel_rfl) ?_); simp [-getElem?_pos, z0, z1, z2, z0]) | ((first | refine AWi.ret ?_ | refine AWi.skip ?_ | refine AWi.exit ?_); try simp only [thenP]) | (with_reducible refine BB.go ?_; simp only [blockP, thenP, reduceIte]) | (with_reducible refine And.intro (okLog_c (by simp [footOf, guardSlot, slotsOf, idsRead, looks, idsOf, idsOf1, idsWritten, colF]; kernel_rfl)) ?_))
    refine ExecI.call [] cp ?_ rfl ?_ ?_; (focus simp [-getElem?_pos, z0]); (focus simp [-getElem?_pos, z0, z1, z2, z0]); simp [-getElem?_pos, z0, z1, z2, z0]
    repeat (first | (with_reducible first | refine AWi.seqK fun _ => ?_ | refine AWi.blockK fun _ => ?_ | refine KI.go ?_) | ((first | refine AWi.region tabOk ?_ | refine AWi.condK fun _ _ => ?_ | refine AWi.draws tabOk rfl (by kernel_rfl) (by kernel_rfl) ?_); simp [-getElem?_pos, z0, z1, z2, z0]) | ((first | refine AWi.ret ?_ | refine AWi.skip ?_ | refine AWi.exit ?_); try simp only [thenP]) | (with_reducible refine BB.go ?_; simp only [blockP, thenP, reduceIte]) | (with_reducible refine And.intro (okLog_c (by simp [footOf, guardSlot, slotsOf, idsRead, looks, idsOf, idsOf1, idsWritten, colF]; kernel_rfl)) ?_))
    refine ExecI.callC (newPair_w l hl _ _) rfl (by simp [calleeS, evList]) ?_
    rintro y n1 m1 ⟨k, k1, k2, rfl, k4, k5⟩
    simp
    repeat (first | (with_reducible first | refine AWi.seqK fun _ => ?_ | refine AWi.blockK fun _ => ?_ | refine KI.go ?_) | ((first | refine AWi.region tabOk ?_ | refine AWi.condK fun _ _ => ?_ | refine AWi.draws tabOk rfl (by kernel_rfl) (by kernel_rfl) ?_); simp [-getElem?_pos, z0, z1, z2, z0]) | ((first | refine AWi.ret ?_ | refine AWi.skip ?_ | refine AWi.exit ?_); try simp only [thenP]) | (with_reducible refine BB.go ?_; simp only [blockP, thenP, reduceIte]) | (with_reducible refine And.intro (okLog_c (by simp [footOf, guardSlot, slotsOf, idsRead, looks, idsOf, idsOf1, idsWritten, colF]; kernel_rfl)) ?_))
    exact RI.ret rfl ⟨by omega, fun j hj => k5 j (by omega), .inr ⟨h0, k, by omega, by omega, rfl, by rw [← pairM_of _ h0]; exact k4⟩⟩
  · refine cwpK tabOk Try.func68 rfl rfl (show 1 ≤ _ by decide) rfl fun _ => ?_; simp only [Try.ntmps68]
    repeat (first | (with_reducible first | refine AWi.seqK fun _ => ?_ | refine AWi.blockK fun _ => ?_ | refine KI.go ?_) | ((first | refine AWi.region tabOk ?_ | refine AWi.condK fun _ _ => ?_ | refine AWi.draws tabOk rfl (by kernel_rfl) (by kernel_rfl) ?_); simp [-getElem?_pos, z0, z1, z2, z0]) | ((first | refine AWi.ret ?_ | refine AWi.skip ?_ | refine AWi.exit ?_); try simp only [thenP]) | (with_reducible refine BB.go ?_; simp only [blockP, thenP, reduceIte]) | (with_reducible refine And.intro (okLog_c (by simp [footOf, guardSlot, slotsOf, idsRead, looks, idsOf, idsOf1, idsWritten, colF]; kernel_rfl)) ?_))
    refine ExecI.call [] cp ?_ rfl ?_ ?_; (focus simp [-getElem?_pos, z0]); (focus simp [-getElem?_pos, z0, z1, z2, z0]); simp [-getElem?_pos, z0, z1, z2, z0]
    repeat (first | (with_reducible first | refine AWi.seqK fun _ => ?_ | refine AWi.blockK fun _ => ?_ | refine KI.go ?_) | ((first | refine AWi.region tabOk ?_ | refine AWi.condK fun _ _ => ?_ | refine AWi.draws tabOk rfl (by kernel_rfl) (by kernel_rfl) ?_); simp [-getElem?_pos, z0, z1, z2, h0]) | ((first | refine AWi.ret ?_ | refine AWi.skip ?_ | refine AWi.exit ?_); try simp only [thenP]) | (with_reducible refine BB.go ?_; simp only [blockP, thenP, reduceIte]) | (with_reducible refine And.intro (okLog_c (by simp [footOf, guardSlot, slotsOf, idsRead, looks, idsOf, idsOf1, idsWritten, colF]; kernel_rfl)) ?_))
    exact RI.ret rfl ⟨by omega, fun j hj => rfl, .inl ⟨h0, rfl⟩⟩
def spotV (s : Spot) : SV := .agg [.d (iD s.at_), .d (iD s.lo), .d (iD s.hi), .d (iD s.name)]
set_option maxRecDepth 100000 in
set_option maxHeartbeats 4000000 in
theorem spot_w {l : List CSt} {k : Nat} {m : Mem} {h : List (Int × Int)} (hk : m k = some (pairM l h)) (i : Int) (n : Nat) (hn : k < n) : CWp Try.prog 53 [.ptr k 0 0, .d (iD i)] n m fun y n' m' => n ≤ n' ∧ (∀ j, j < n → m' j = m j) ∧
    (¬ (0 ≤ i ∧ i < l.length) ∧ (∃ s, y = .tup [spotV s, .d (iD 3)]) ∨ ∃ s, 0 ≤ i ∧ (spots l)[i.toNat]? = some s ∧ y = .tup [spotV s, .d (iD 0)]) := by
  have e0 : ¬ k = n := by omega
  have mk : ∀ b, ∀ j, j < n → setMem m n b j = m j := fun b j hj => if_neg (by omega)
  unfold pairM pairB at hk
  by_cases g1 : i < 0
  · refine cwpK tabOk Try.func53 rfl rfl (show 2 ≤ _ by decide) rfl fun _ => ?_; simp only [Try.ntmps53]
    repeat (first | (with_reducible first | refine AWi.seqK fun _ => ?_ | refine AWi.blockK fun _ => ?_ | refine KI.go ?_) | ((first | refine AWi.region tabOk ?_ | refine AWi.condK fun _ _ => ?_ | refine AWi.draws tabOk rfl (by kernel_rfl) (by kernel_rfl) ?_); simp [-getElem?_pos, z0, z1, z2, hk, g1, e0]) | ((first | refine AWi.ret ?_ | refine AWi.skip ?_ | refine AWi.exit ?_); try simp only [thenP]) | (with_reducible refine BB.go ?_; simp only [blockP, thenP, reduceIte]) | (with_reducible refine And.intro (okLog_c (by simp [footOf, guardSlot, slotsOf, idsRead, looks, idsOf, idsOf1, idsWritten, colF]; kernel_rfl)) ?_))
    refine RI.ret (xs := [spotV ⟨0, 0, 0, 0⟩, .d (iD 3)]) (by simp [Try.results53, resSlots, resSlot, spotV]) ?_
    exact ⟨by omega, fun j hj => by simp [show ¬ j = n by omega], .inl ⟨by omega, ⟨0, 0, 0, 0⟩, rfl⟩⟩
  have g1' : 0 ≤ i := by omega
  by_cases g2 : (l.length : Int) ≤ i
  · refine cwpK tabOk Try.func53 rfl rfl (show 2 ≤ _ by decide) rfl fun _ => ?_; simp only [Try.ntmps53]
    repeat (first | (with_reducible first | refine AWi.seqK fun _ => ?_ | refine AWi.blockK fun _ => ?_ | refine KI.go ?_) | ((first | refine AWi.region tabOk ?_ | refine AWi.condK fun _ _ => ?_ | refine AWi.draws tabOk rfl (by kernel_rfl) (by kernel_rfl) ?_); simp [-getElem?_pos, z0, z1, z2, hk, g1, e0, g2]) | ((first | refine AWi.ret ?_ | refine AWi.skip ?_ | refine AWi.exit ?_); try simp only [thenP]) | (with_reducible refine BB.go ?_; simp only [blockP, thenP, reduceIte]) | (with_reducible refine And.intro (okLog_c (by simp [footOf, guardSlot, slotsOf, idsRead, looks, idsOf, idsOf1, idsWritten, colF]; kernel_rfl)) ?_))
    refine RI.ret (xs := [spotV ⟨0, 0, 0, 0⟩, .d (iD 3)]) (by simp [Try.results53, resSlots, resSlot, spotV]) ?_
    exact ⟨by omega, fun j hj => by simp [show ¬ j = n by omega], .inl ⟨by omega, ⟨0, 0, 0, 0⟩, rfl⟩⟩
  · obtain ⟨s, hs⟩ : ∃ s, (spots l)[i.toNat]? = some s := ⟨_, List.getElem?_eq_getElem (by simp; omega)⟩
    refine cwpK tabOk Try.func53 rfl rfl (show 2 ≤ _ by decide) rfl fun _ => ?_; simp only [Try.ntmps53]
    repeat (first | (with_reducible first | refine AWi.seqK fun _ => ?_ | refine AWi.blockK fun _ => ?_ | refine KI.go ?_) | ((first | refine AWi.region tabOk ?_ | refine AWi.condK fun _ _ => ?_ | refine AWi.draws tabOk rfl (by kernel_rfl) (by kernel_rfl) ?_); simp [-getElem?_pos, z0, z1, z2, hk, g1, e0, g2, hs, g1']) | ((first | refine AWi.ret ?_ | refine AWi.skip ?_ | refine AWi.exit ?_); try simp only [thenP]) | (with_reducible refine BB.go ?_; simp only [blockP, thenP, reduceIte]) | (with_reducible refine And.intro (okLog_c (by simp [footOf, guardSlot, slotsOf, idsRead, looks, idsOf, idsOf1, idsWritten, colF]; kernel_rfl)) ?_))
    refine RI.ret (xs := [spotV s, .d (iD 0)]) (by simp [Try.results53, resSlots, resSlot, spotV]) ?_
    exact ⟨by omega, fun j hj => by simp [show ¬ j = n by omega], .inr ⟨s, g1', hs, rfl⟩⟩
end Go.Proofs.Ytjjoiihgpkhndaa.Eng


namespace Go.Proofs.Ytjjoiihgpkhndaa.Eng
open Go.RowKit
theorem rowQ_len (h : List (Int × Int)) : (rowQ h).length = 2 * h.length := by
  induction h with
  | nil => rfl
  | cons q p ih => simp only [rowQ, List.flatMap_cons, List.length_append, List.length_cons, List.length_nil] at ih ⊢; omega
theorem rowQ_drop : ∀ (p : List (Int × Int)) (k : Nat), (rowQ p).drop (k * 2) = rowQ (p.drop k)
  | p, 0 => by simp
  | [], k + 1 => by simp [rowQ]
  | q :: p, k + 1 => by
    rw [show (k + 1) * 2 = k * 2 + 2 by omega]
    simp only [rowQ, List.flatMap_cons, List.drop_succ_cons, List.cons_append, List.nil_append]
    exact rowQ_drop p k
theorem rowQ_at {p : List (Int × Int)} {k : Nat} {q : Int × Int} (h : p[k]? = some q) : ((rowQ p).drop (k * 2)).take 2 = [iD q.1, iD q.2] := by
  obtain ⟨hk, e⟩ := List.getElem?_eq_some_iff.1 h
  rw [rowQ_drop, List.drop_eq_getElem_cons hk, e]
  rfl
theorem rowQ_set : ∀ (p : List (Int × Int)) (k : Nat) (q : Int × Int), k < p.length → rowQ (p.set k q) = (rowQ p).take (k * 2) ++ [iD q.1, iD q.2] ++ (rowQ p).drop (k * 2 + 2)
  | [], _, _, h => by simp at h
  | x :: p, 0, q, _ => by simp [rowQ]
  | x :: p, k + 1, q, h => by
    have := rowQ_set p k q (by simpa using h)
    rw [show (k + 1) * 2 = k * 2 + 2 by omega, show k * 2 + 2 + 2 = (k * 2 + 2) + 2 by omega]
    simp only [rowQ, List.set_cons_succ, List.flatMap_cons, List.cons_append, List.nil_append, List.take_succ_cons, List.drop_succ_cons] at this ⊢
    rw [this]
def ratV (q : Int × Int) : SV := .agg [.d (iD q.1), .d (iD q.2)]
set_option maxRecDepth 100000 in
set_option maxHeartbeats 4000000 in
theorem height_w {k : Nat} {m : Mem} {x : SV} {h : List (Int × Int)} (hk : m k = some (pairB x h)) (hl : h.length = 25) (s : Spot) (q : Int × Int) (h0 : 0 ≤ s.name) (hq : h[s.name.toNat]? = some q) (n : Nat) (hn : k < n) : CWp Try.prog 80 [.ptr k 0 0, spotV s] n m fun y n' m' => n ≤ n' ∧ y = ratV q ∧ ∀ j, j < n → m' j = m j := by
  have e0 : ¬ k = n := by omega
  have e1 : ¬ k = n + 1 := by omega
  have h1 : s.name < 25 := by have := (List.getElem?_eq_some_iff.1 hq).1; omega
  have d1 : List.take 2 (List.drop (1 + s.name.toNat * 2) (x :: (rowQ h).map SV.d)) = [.d (iD q.1), .d (iD q.2)] := by rw [Nat.add_comm 1, List.drop_succ_cons, ← List.map_drop, ← List.map_take, rowQ_at hq]; rfl
  have d2 : 1 + s.name.toNat * 2 + 1 ≤ (rowQ h).length := by rw [rowQ_len]; omega
  unfold pairB at hk
  unfold spotV
  refine cwpK tabOk Try.func80 rfl rfl (show 2 ≤ _ by decide) rfl fun _ => ?_; simp only [Try.ntmps80]
  repeat (first | (with_reducible first | refine AWi.seqK fun _ => ?_ | refine AWi.blockK fun _ => ?_ | refine KI.go ?_) | ((first | refine AWi.region tabOk ?_ | refine AWi.condK fun _ _ => ?_ | refine AWi.draws tabOk rfl (by kernel_rfl) (by kernel_rfl) ?_); simp [-getElem?_pos, z0, z1, z2, hk, e0, e1, h0, h1, d1, d2]) | ((first | refine AWi.ret ?_ | refine AWi.skip ?_ | refine AWi.exit ?_); try simp only [thenP]) | (with_reducible refine BB.go ?_; simp only [blockP, thenP, reduceIte]) | (with_reducible refine And.intro (okLog_c (by simp [footOf, guardSlot, slotsOf, idsRead, looks, idsOf, idsOf1, idsWritten, colF]; kernel_rfl)) ?_))
  refine RI.ret (xs := [ratV q]) (by simp [Try.results80, resSlots, resSlot, ratV]) ?_
  exact ⟨by omega, rfl, fun j hj => by simp [show ¬ j = n by omega, show ¬ j = n + 1 by omega]⟩
theorem ratV_data (q : Int × Int) : toD3 (ratV q) = some (ratD q) := rfl
theorem height_r {k : Nat} {m : Mem} {x : SV} {h : List (Int × Int)} (hk : m k = some (pairB x h)) (hl : h.length = 25) (s : Spot) (q : Int × Int) (h0 : 0 ≤ s.name) (hq : h[s.name.toNat]? = some q) : RCall Try.prog 80 [.ptr k 0 0, spotV s] (ratD q) (only m [k]) :=
  RCall.of3 (n0 := k + 1) fun n hn => by
    refine (height_w (m := only m [k]) (x := x) (by simp [hk]) hl s q h0 hq n (by omega)).mono fun y n' m' => ?_
    rintro ⟨_, rfl, h3⟩
    exact ⟨ratV_data q, h3⟩
end Go.Proofs.Ytjjoiihgpkhndaa.Eng


namespace Go.Proofs.Ytjjoiihgpkhndaa.Eng
open Go.RowKit
def spotC (s : Spot) : List SV := [.d (iD s.at_), .d (iD s.lo), .d (iD s.hi), .d (iD s.name)]
def wh (v : List Int) : List (Int × Int) := v.map (fun x => (x, 1)) ++ List.replicate (25 - v.length) (0, 0)
theorem wh_len (v : List Int) (h : v.length ≤ 25) : (wh v).length = 25 := by simp [wh]; omega
theorem wh_get {v : List Int} {i : Nat} {x : Int} (h : v[i]? = some x) : (wh v)[i]? = some (x, 1) := by
  have hi := (List.getElem?_eq_some_iff.1 h).1
  rw [wh, List.getElem?_append_left (by simpa using hi), List.getElem?_map, h]
  rfl
def slope (v : List Int) (s o : Spot) : Int × Int := red ((v[o.name.toNat]?).getD 0 - (v[s.name.toNat]?).getD 0) (o.at_ - s.at_)
def slopeX (v : List Int) (s : Spot) (o : List Spot) : List (List SV) := o.map fun q => [.d (ratD (slope v s q))]
theorem gcd_one (x : Int) : Int.gcd x 1 = 1 := by simp [Int.gcd]
theorem red_one (x : Int) : red x 1 = (x, 1) := by simp [red, gcd_one]
structure SpotOk (v : List Int) (s : Spot) : Prop where
  name : 0 ≤ s.name
  at_ : 0 ≤ s.at_ ∧ s.at_ ≤ 1000
  high : ∃ x, v[s.name.toNat]? = some x ∧ -1000 ≤ x ∧ x ≤ 1000
set_option maxRecDepth 100000 in
set_option maxHeartbeats 8000000 in
theorem slopes1_w (k ko kp ks : Nat) (x : SV) (v : List Int) (hv : v.length ≤ 25) (s : Spot) (hs : SpotOk v s) (o : List Spot) (ho : ∀ q ∈ o, SpotOk v q ∧ q.at_ ≠ s.at_) (hl : o.length ≤ 25) :
    Iterates Try.prog 98 (fun Y => [Y, .ptr ko 0 0, .ptr kp 0 0, .ptr ks 0 0]) (slopeX v s o) fun m => (∃ z, m ko = some (.box 89 [.d (.list (spotRows o))] z)) ∧ (∃ z, m kp = some (.box 76 [.ptr k 0 0] z)) ∧ (∃ z, m ks = some (.box 82 (spotC s) z)) ∧ m k = some (pairB x (wh v)) := by
  intro Y n0 I J _ hI hJ hk hy n m hn h0
  obtain ⟨⟨za, q1⟩, ⟨zb, q2⟩, ⟨zc, q3⟩, q4⟩ := hk _ _ h0
  have l1 : ko < n0 := (hI 0).lt h0 fun m h e => by obtain ⟨⟨z, h1⟩, _⟩ := hk _ _ h; rw [e] at h1; cases h1
  have l2 : kp < n0 := (hI 0).lt h0 fun m h e => by obtain ⟨_, ⟨z, h1⟩, _⟩ := hk _ _ h; rw [e] at h1; cases h1
  have l3 : ks < n0 := (hI 0).lt h0 fun m h e => by obtain ⟨_, _, ⟨z, h1⟩, _⟩ := hk _ _ h; rw [e] at h1; cases h1
  have l4 : k < n0 := (hI 0).lt h0 fun m h e => by obtain ⟨_, _, _, h1⟩ := hk _ _ h; rw [e] at h1; cases h1
  refine cwpK tabOk Try.func98 rfl rfl (show 4 ≤ _ by decide) rfl fun _ => ?_; simp only [Try.ntmps98]
  repeat (first | (with_reducible first | refine AWi.seqK fun _ => ?_ | refine AWi.blockK fun _ => ?_ | refine KI.go ?_) | ((first | refine AWi.region tabOk ?_ | refine AWi.condK fun _ _ => ?_ | refine AWi.draws tabOk rfl (by kernel_rfl) (by kernel_rfl) ?_); simp [-getElem?_pos, z0, z1, z2, q1]) | ((first | refine AWi.ret ?_ | refine AWi.skip ?_ | refine AWi.exit ?_); try simp only [thenP]) | (with_reducible refine BB.go ?_; simp only [blockP, thenP, reduceIte]) | (with_reducible refine And.intro (okLog_c (by simp [footOf, guardSlot, slotsOf, idsRead, looks, idsOf, idsOf1, idsWritten, colF]; kernel_rfl)) ?_))
  refine AWi.loopK (fun (i : Nat) n1 st => Keeps n0 n m n1 st.mem ∧ I i st.mem ∧ st.slots 0 = Y ∧ st.slots 1 = .ptr ko 0 0 ∧ st.slots 2 = .ptr kp 0 0 ∧ st.slots 3 = .ptr ks 0 0 ∧ st.slots 8 = .d (.list (spotRows o)) ∧ st.slots 9 = .d (iD o.length) ∧ st.slots 10 = .d (iD i) ∧ i ≤ o.length) (fun i => o.length - i) 0 ?_ ?_
  · exact ⟨Keeps.more (by omega), h0, by simp, by simp, by simp, by simp, by simp, by simp, by simp, by omega⟩
  · rintro i n1 st ⟨r0, r1, r2, r3, r4, r5, r6, r7, r8, r9⟩ kk
    have hn1 : n ≤ n1 := r0.1
    have w1 : IntKind.i64.wrap ((i : Int) + 1) = (i : Int) + 1 := wrap64_in (by omega)
    obtain ⟨⟨y1, p1⟩, ⟨y2, p2⟩, ⟨y3, p3⟩, p4⟩ := hk _ _ r1
    by_cases hlt : i < o.length
    · obtain ⟨q, hq⟩ : ∃ q, o[i]? = some q := ⟨_, List.getElem?_eq_getElem hlt⟩
      obtain ⟨hqo, hqs⟩ := ho q (List.mem_of_getElem? hq)
      have e1 : ¬ kp = n1 + 1 + 1 + 1 := by omega
      have e2 : ¬ ks = n1 + 1 + 1 + 1 := by omega
      have e3 : ¬ k = n1 + 1 + 1 + 1 := by omega
      repeat (first | (with_reducible first | refine AWi.seqK fun _ => ?_ | refine AWi.blockK fun _ => ?_ | refine KI.go ?_) | ((first | refine AWi.region tabOk ?_ | refine AWi.condK fun _ _ => ?_ | refine AWi.draws tabOk rfl (by kernel_rfl) (by kernel_rfl) ?_); simp [-getElem?_pos, z0, z1, z2, p1, p2, p3, r2, r3, r4, r5, r6, r7, r8, hlt, hq, e1, e2, e3]) | ((first | refine AWi.ret ?_ | refine AWi.skip ?_ | refine AWi.exit ?_); try simp only [thenP]) | (with_reducible refine BB.go ?_; simp only [blockP, thenP, reduceIte]) | (with_reducible refine And.intro (okLog_c (by simp [footOf, guardSlot, slotsOf, idsRead, looks, idsOf, idsOf1, idsWritten, colF]; kernel_rfl)) ?_))
      obtain ⟨xq, hq1, hq2, hq3⟩ := hqo.high
      obtain ⟨xs, hs1, hs2, hs3⟩ := hs.high
      have cm : ACall Try.prog 99 [ratD (xq, 1), ratD (xs, 1)] (ratD (xq - xs, 1)) := by
        have w1 : IntKind.i64.wrap 1 = 1 := by decide
        have := minus_c (xq, 1) (xs, 1) (by simp; exact wrap64_in (by omega)) (by simp; exact wrap64_in (by omega)) (by simp; exact wrap64_in (by omega)) (by simp [w1]) (by simp; omega) (by simp) (by simp)
        simp only [Int.mul_one, red_one] at this
        exact this
      have ha1 := hqo.at_
      have ha2 := hs.at_
      have cl : ACall Try.prog 100 [iD (xq - xs), iD (q.at_ - s.at_)] (ratD (slope v s q)) := by
        unfold slope
        rw [hq1, hs1]
        exact inLeastTerms_c _ _ (by show _ ≤ xq - xs ∧ xq - xs ≤ _; omega) (by omega) (by omega)
      have wa : IntKind.i64.wrap (q.at_ - s.at_) = q.at_ - s.at_ := wrap64_in (by omega)
      refine Exec.callR [k] (height_r (x := x) (h := wh v) (by simp [e3, p4]) (wh_len v hv) q (xq, 1) hqo.name (wh_get hq1)) rfl (by simp [calleeS, evList, spotV, e1, e2, e3, p2, p3, r4, r5, spotC]) ?_; simp [-getElem?_pos, z0, z1, z2, spotV, e1, e2, e3, p2, p3, r4, r5, spotC]
      refine Exec.callR [k] (height_r (x := x) (h := wh v) (by simp [e3, p4]) (wh_len v hv) s (xs, 1) hs.name (wh_get hs1)) rfl (by simp [calleeS, evList, spotV, e1, e2, e3, p2, p3, r4, r5, spotC]) ?_; simp [-getElem?_pos, z0, z1, z2, spotV, e1, e2, e3, p2, p3, r4, r5, spotC]
      refine Exec.call [] cm ?_ rfl ?_ ?_; (focus simp [-getElem?_pos]); (focus simp [-getElem?_pos, z0, z1, z2, ratD]); simp [-getElem?_pos, z0, z1, z2, ratD]
      have e6 : ¬ kp = n1 + 1 + 1 + 1 + 1 + 1 + 1 + 1 + 1 + 1 + 1 + 1 + 1 := by omega
      have e7 : ¬ k = n1 + 1 + 1 + 1 + 1 + 1 + 1 + 1 + 1 + 1 + 1 + 1 + 1 := by omega
      have e4 : ¬ ks = n1 + 1 + 1 + 1 + 1 + 1 + 1 + 1 + 1 + 1 + 1 + 1 + 1 := by omega
      have e5 : ¬ n1 + 1 + 1 + 1 = n1 + 1 + 1 + 1 + 1 + 1 + 1 + 1 + 1 + 1 + 1 + 1 + 1 := by omega
      refine And.intro (okLog_by (colA (n1 + 1 + 1 + 1 + 1 + 1 + 1 + 1 + 1 + 1 + 1 + 1 + 1)) (by simp only [List.map_cons, List.map_nil, List.map_append, List.nil_append, List.cons_append, colBy, colA_even, colA_self, colA_other, Nat.reduceMod, not_false_eq_true, e4, e5, e6, e7]; kernel_rfl)) ?_
      repeat (first | (with_reducible first | refine AWi.seqK fun _ => ?_ | refine AWi.blockK fun _ => ?_ | refine KI.go ?_) | ((first | refine AWi.region tabOk ?_ | refine AWi.condK fun _ _ => ?_ | refine AWi.draws tabOk rfl (by kernel_rfl) (by kernel_rfl) ?_); simp [-getElem?_pos, z0, z1, z2, ratD, r2, wa, e1, e2, e4, p3, r5, spotC]) | ((first | refine AWi.ret ?_ | refine AWi.skip ?_ | refine AWi.exit ?_); try simp only [thenP]) | (with_reducible refine BB.go ?_; simp only [blockP, thenP, reduceIte]) | (with_reducible refine And.intro (okLog_c (by simp [footOf, guardSlot, slotsOf, idsRead, looks, idsOf, idsOf1, idsWritten, colF]; kernel_rfl)) ?_))
      refine ExecI.call [] cl ?_ rfl ?_ ?_; (focus simp [-getElem?_pos, e1]); (focus simp [-getElem?_pos, z0, z1, z2, e1]); simp [-getElem?_pos, z0, z1, z2, e1]
      have below : ∀ j, j < n0 → ¬ j = n1 + 1 + 1 + 1 ∧ ¬ j = n1 + 1 + 1 + 1 + 1 + 1 + 1 + 1 + 1 + 1 + 1 + 1 + 1 := fun j hj => by omega
      refine ExecI.callY (Y := Y) (xs := [.d (ratD (slope v s q))]) (hy i _ _ _ (by simp [slopeX, hq]) (by omega) (hI i _ _ (fun j hj => by simp [below j hj]) r1)) rfl (by simp [calleeV, evList, ratD]) ?_
      rintro y n' m' ⟨hkp, ⟨rfl, h⟩ | ⟨rfl, h⟩⟩
      · simp
        repeat (first | (with_reducible first | refine AWi.seqK fun _ => ?_ | refine AWi.blockK fun _ => ?_ | refine KI.go ?_) | ((first | refine AWi.region tabOk ?_ | refine AWi.condK fun _ _ => ?_ | refine AWi.draws tabOk rfl (by kernel_rfl) (by kernel_rfl) ?_); simp [-getElem?_pos, z0, z1, z2, r2, r3, r4, r5, r6, r7, r8, w1]) | ((first | refine AWi.ret ?_ | refine AWi.skip ?_ | refine AWi.exit ?_); try simp only [thenP]) | (with_reducible refine BB.go ?_; simp only [blockP, thenP, reduceIte]) | (with_reducible refine And.intro (okLog_c (by simp [footOf, guardSlot, slotsOf, idsRead, looks, idsOf, idsOf1, idsWritten, colF]; kernel_rfl)) ?_))
        refine LI.go (i + 1) ⟨(r0.trans ?_).trans (hkp.trans (Keeps.more (by omega))), h, by simp [r2], by simp [r3], by simp [r4], by simp [r5], by simp [r6], by simp [r7], by simp, by omega⟩ (by omega)
        exact ⟨by omega, fun j _ hj => by simp [show ¬ j = n1 + 1 + 1 + 1 by omega, show ¬ j = n1 + 1 + 1 + 1 + 1 + 1 + 1 + 1 + 1 + 1 + 1 + 1 + 1 by omega]⟩
      · simp
        repeat (first | (with_reducible first | refine AWi.seqK fun _ => ?_ | refine AWi.blockK fun _ => ?_ | refine KI.go ?_) | ((first | refine AWi.region tabOk ?_ | refine AWi.condK fun _ _ => ?_ | refine AWi.draws tabOk rfl (by kernel_rfl) (by kernel_rfl) ?_); simp [-getElem?_pos, z0, z1, z2, r2, r3, r4, r5, r6, r7, r8]) | ((first | refine AWi.ret ?_ | refine AWi.skip ?_ | refine AWi.exit ?_); try simp only [thenP]) | (with_reducible refine BB.go ?_; simp only [blockP, thenP, reduceIte]) | (with_reducible refine And.intro (okLog_c (by simp [footOf, guardSlot, slotsOf, idsRead, looks, idsOf, idsOf1, idsWritten, colF]; kernel_rfl)) ?_))
        refine RI.ret rfl ⟨(r0.trans ?_).trans (hkp.trans (Keeps.more (by omega))), .inr h⟩
        exact ⟨by omega, fun j _ hj => by simp [show ¬ j = n1 + 1 + 1 + 1 by omega, show ¬ j = n1 + 1 + 1 + 1 + 1 + 1 + 1 + 1 + 1 + 1 + 1 + 1 + 1 by omega]⟩
    · repeat (first | (with_reducible first | refine AWi.seqK fun _ => ?_ | refine AWi.blockK fun _ => ?_ | refine KI.go ?_) | ((first | refine AWi.region tabOk ?_ | refine AWi.condK fun _ _ => ?_ | refine AWi.draws tabOk rfl (by kernel_rfl) (by kernel_rfl) ?_); simp [-getElem?_pos, z0, z1, z2, r2, r3, r4, r5, r6, r7, r8, hlt]) | ((first | refine AWi.ret ?_ | refine AWi.skip ?_ | refine AWi.exit ?_); try simp only [thenP]) | (with_reducible refine BB.go ?_; simp only [blockP, thenP, reduceIte]) | (with_reducible refine And.intro (okLog_c (by simp [footOf, guardSlot, slotsOf, idsRead, looks, idsOf, idsOf1, idsWritten, colF]; kernel_rfl)) ?_))
      exact RI.normal rfl ⟨r0.trans (Keeps.more (by omega)), .inl (by rw [show (slopeX v s o).length = i by simp [slopeX]; omega]; exact r1)⟩
end Go.Proofs.Ytjjoiihgpkhndaa.Eng


namespace Go.Proofs.Ytjjoiihgpkhndaa.Eng
open Go.RowKit
@[simp] theorem nk1 (n : Nat) : (n = n + 1) = False := by simp only [eq_iff_iff, iff_false]; omega
@[simp] theorem mk1 (n : Nat) : (n + 1 = n) = False := by simp only [eq_iff_iff, iff_false]; omega
@[simp] theorem nk2 (n : Nat) : (n = n + 1 + 1) = False := by simp only [eq_iff_iff, iff_false]; omega
@[simp] theorem mk2 (n : Nat) : (n + 1 + 1 = n) = False := by simp only [eq_iff_iff, iff_false]; omega
@[simp] theorem nk3 (n : Nat) : (n = n + 1 + 1 + 1) = False := by simp only [eq_iff_iff, iff_false]; omega
@[simp] theorem mk3 (n : Nat) : (n + 1 + 1 + 1 = n) = False := by simp only [eq_iff_iff, iff_false]; omega
@[simp] theorem nk4 (n : Nat) : (n = n + 1 + 1 + 1 + 1) = False := by simp only [eq_iff_iff, iff_false]; omega
@[simp] theorem mk4 (n : Nat) : (n + 1 + 1 + 1 + 1 = n) = False := by simp only [eq_iff_iff, iff_false]; omega
@[simp] theorem nk5 (n : Nat) : (n = n + 1 + 1 + 1 + 1 + 1) = False := by simp only [eq_iff_iff, iff_false]; omega
@[simp] theorem mk5 (n : Nat) : (n + 1 + 1 + 1 + 1 + 1 = n) = False := by simp only [eq_iff_iff, iff_false]; omega
@[simp] theorem nk6 (n : Nat) : (n = n + 1 + 1 + 1 + 1 + 1 + 1) = False := by simp only [eq_iff_iff, iff_false]; omega
@[simp] theorem mk6 (n : Nat) : (n + 1 + 1 + 1 + 1 + 1 + 1 = n) = False := by simp only [eq_iff_iff, iff_false]; omega
@[simp] theorem nk7 (n : Nat) : (n = n + 1 + 1 + 1 + 1 + 1 + 1 + 1) = False := by simp only [eq_iff_iff, iff_false]; omega
@[simp] theorem mk7 (n : Nat) : (n + 1 + 1 + 1 + 1 + 1 + 1 + 1 = n) = False := by simp only [eq_iff_iff, iff_false]; omega
@[simp] theorem nk8 (n : Nat) : (n = n + 1 + 1 + 1 + 1 + 1 + 1 + 1 + 1) = False := by simp only [eq_iff_iff, iff_false]; omega
@[simp] theorem mk8 (n : Nat) : (n + 1 + 1 + 1 + 1 + 1 + 1 + 1 + 1 = n) = False := by simp only [eq_iff_iff, iff_false]; omega
@[simp] theorem nk9 (n : Nat) : (n = n + 1 + 1 + 1 + 1 + 1 + 1 + 1 + 1 + 1) = False := by simp only [eq_iff_iff, iff_false]; omega
@[simp] theorem mk9 (n : Nat) : (n + 1 + 1 + 1 + 1 + 1 + 1 + 1 + 1 + 1 = n) = False := by simp only [eq_iff_iff, iff_false]; omega
@[simp] theorem nk10 (n : Nat) : (n = n + 1 + 1 + 1 + 1 + 1 + 1 + 1 + 1 + 1 + 1) = False := by simp only [eq_iff_iff, iff_false]; omega
@[simp] theorem mk10 (n : Nat) : (n + 1 + 1 + 1 + 1 + 1 + 1 + 1 + 1 + 1 + 1 = n) = False := by simp only [eq_iff_iff, iff_false]; omega
@[simp] theorem nk11 (n : Nat) : (n = n + 1 + 1 + 1 + 1 + 1 + 1 + 1 + 1 + 1 + 1 + 1) = False := by simp only [eq_iff_iff, iff_false]; omega
@[simp] theorem mk11 (n : Nat) : (n + 1 + 1 + 1 + 1 + 1 + 1 + 1 + 1 + 1 + 1 + 1 = n) = False := by simp only [eq_iff_iff, iff_false]; omega
@[simp] theorem nk12 (n : Nat) : (n = n + 1 + 1 + 1 + 1 + 1 + 1 + 1 + 1 + 1 + 1 + 1 + 1) = False := by simp only [eq_iff_iff, iff_false]; omega
@[simp] theorem mk12 (n : Nat) : (n + 1 + 1 + 1 + 1 + 1 + 1 + 1 + 1 + 1 + 1 + 1 + 1 = n) = False := by simp only [eq_iff_iff, iff_false]; omega
@[simp] theorem nk13 (n : Nat) : (n = n + 1 + 1 + 1 + 1 + 1 + 1 + 1 + 1 + 1 + 1 + 1 + 1 + 1) = False := by simp only [eq_iff_iff, iff_false]; omega
@[simp] theorem mk13 (n : Nat) : (n + 1 + 1 + 1 + 1 + 1 + 1 + 1 + 1 + 1 + 1 + 1 + 1 + 1 = n) = False := by simp only [eq_iff_iff, iff_false]; omega
@[simp] theorem nk14 (n : Nat) : (n = n + 1 + 1 + 1 + 1 + 1 + 1 + 1 + 1 + 1 + 1 + 1 + 1 + 1 + 1) = False := by simp only [eq_iff_iff, iff_false]; omega
@[simp] theorem mk14 (n : Nat) : (n + 1 + 1 + 1 + 1 + 1 + 1 + 1 + 1 + 1 + 1 + 1 + 1 + 1 + 1 = n) = False := by simp only [eq_iff_iff, iff_false]; omega
@[simp] theorem nk15 (n : Nat) : (n = n + 1 + 1 + 1 + 1 + 1 + 1 + 1 + 1 + 1 + 1 + 1 + 1 + 1 + 1 + 1) = False := by simp only [eq_iff_iff, iff_false]; omega
@[simp] theorem mk15 (n : Nat) : (n + 1 + 1 + 1 + 1 + 1 + 1 + 1 + 1 + 1 + 1 + 1 + 1 + 1 + 1 + 1 = n) = False := by simp only [eq_iff_iff, iff_false]; omega
@[simp] theorem nk16 (n : Nat) : (n = n + 1 + 1 + 1 + 1 + 1 + 1 + 1 + 1 + 1 + 1 + 1 + 1 + 1 + 1 + 1 + 1) = False := by simp only [eq_iff_iff, iff_false]; omega
@[simp] theorem mk16 (n : Nat) : (n + 1 + 1 + 1 + 1 + 1 + 1 + 1 + 1 + 1 + 1 + 1 + 1 + 1 + 1 + 1 + 1 = n) = False := by simp only [eq_iff_iff, iff_false]; omega
def leastR (less : Int × Int → Int × Int → Bool) (one : Int × Int) (qs : List (Int × Int)) : Int × Int := qs.foldl (fun a x => if less x a = true then x else a) one
theorem leastR_succ (less : Int × Int → Int × Int → Bool) (one : Int × Int) {qs : List (Int × Int)} {i : Nat} {q : Int × Int} (h : qs[i]? = some q) : leastR less one (qs.take (i + 1)) = if less q (leastR less one (qs.take i)) = true then q else leastR less one (qs.take i) := by
  obtain ⟨hi, rfl⟩ := List.getElem?_eq_some_iff.1 h
  unfold leastR
  rw [List.take_succ_eq_append_getElem hi, List.foldl_append]
  rfl
theorem leastR_mem (less : Int × Int → Int × Int → Bool) : ∀ (one : Int × Int) (qs : List (Int × Int)), leastR less one qs = one ∨ leastR less one qs ∈ qs
  | one, [] => .inl rfl
  | one, q :: qs => by
    have h : leastR less one (q :: qs) = leastR less (if less q one = true then q else one) qs := rfl
    rw [h]
    rcases leastR_mem less (if less q one = true then q else one) qs with h1 | h1
    · rw [h1]
      split
      · exact .inr List.mem_cons_self
      · exact .inl rfl
    · exact .inr (List.mem_cons_of_mem _ h1)
def oneQ (q : Int × Int) : List SV := [.d (ratD q)]
set_option maxRecDepth 100000 in
set_option maxHeartbeats 4000000 in
theorem leastOf_w {f : FuncId} {us vs : List SV} {args : SV → List SV} {qs : List (Int × Int)} {K : Mem → Prop} (hit : Iterates Try.prog f args (qs.map oneQ) K) (ha : ∀ Y, args Y = us ++ [Y] ++ vs) (B : SV) (hB : FnV B) (less : Int × Int → Int × Int → Bool) (one : Int × Int) (n : Nat) (m : Mem) (hK : K m) (hKb : Below' n K)
    (hby : ∀ x ∈ qs, ∀ y, y = one ∨ y ∈ qs → ∀ n' m', n ≤ n' → YCall Try.prog B [ratV x, ratV y] n' m' fun b n'' m'' => n' ≤ n'' ∧ (∀ j, j < n' → m'' j = m' j) ∧ b = .d (bD (less x y))) :
    CWp Try.prog 84 [.d (ratD one), .fn f us vs, B] n m fun y n' m' => n ≤ n' ∧ (∀ j, j < n → m' j = m j) ∧ y = ratV (leastR less one qs) := by
  obtain ⟨hB1, hB2⟩ := hB
  have hO1 : (SV.d (.agg [iD one.1, iD one.2])).fit = true := rfl
  have hO2 : (SV.d (.agg [iD one.1, iD one.2])).cells = [.d (iD one.1), .d (iD one.2)] := rfl
  unfold ratD
  refine cwpK tabOk Try.func84 rfl rfl (show 3 ≤ _ by decide) rfl fun _ => ?_; simp only [Try.ntmps84]
  refine AWi.seqK fun _ => ?_
  refine AWi.region tabOk ?_
  simp [-getElem?_pos, z0, z1, z2, -SV.fit, -SV.cells, hB1, hB2, hO1, hO2]
  repeat (first | (with_reducible first | refine AWi.seqK fun _ => ?_ | refine AWi.blockK fun _ => ?_ | refine KI.go ?_) | ((first | refine AWi.region tabOk ?_ | refine AWi.condK fun _ _ => ?_ | refine AWi.draws tabOk rfl (by kernel_rfl) (by kernel_rfl) ?_); simp [-getElem?_pos, z0, z1, z2, z0]) | ((first | refine AWi.ret ?_ | refine AWi.skip ?_ | refine AWi.exit ?_); try simp only [thenP]) | (with_reducible refine BB.go ?_; simp only [blockP, thenP, reduceIte]) | (with_reducible refine And.intro (okLog_c (by simp [footOf, guardSlot, slotsOf, idsRead, looks, idsOf, idsOf1, idsWritten, colF]; kernel_rfl)) ?_))
  refine AWi.iterK hit rfl ha (fun _ h => by cases h) rfl (by rintro z hz; obtain ⟨q, _, rfl⟩ := List.mem_map.1 hz; rfl)
    (fun i mm => (∀ j, j < n → mm j = m j) ∧ mm (n + 1) = some (.box 54 [B] false) ∧ mm (n + 1 + 1) = some (.box 25 [.d (.val (.int .i64 0)), .d (.val (.int .i64 0))] false) ∧ mm (n + 1 + 1 + 1 + 1) = some (.box 25 [.d (iD (leastR less one (qs.take i)).1), .d (iD (leastR less one (qs.take i)).2)] false))
    (fun _ _ => False) ?_ ?_ ?_ ?_ ?_ ?_ ?_
  · rintro i mm mm' h ⟨h1, h2, h3, h4⟩
    exact ⟨fun j hj => (h j (by omega)).trans (h1 j hj), (h _ (by omega)).trans h2, (h _ (by omega)).trans h3, (h _ (by omega)).trans h4⟩
  · exact fun _ _ _ _ h => h
  · exact fun i mm h => hKb _ _ h.1 hK
  · refine ⟨fun j hj => ?_, by simp, by simp, by simp [leastR]⟩
    simp [show ¬ j = n + 1 + 1 by omega, show ¬ j = n by omega, show ¬ j = n + 1 by omega, show ¬ j = n + 1 + 1 + 1 + 1 by omega]
  · rintro i n2 m2 z hz hn2 ⟨h1, h2, h3, h4⟩ kk
    obtain ⟨q, hq, rfl⟩ : ∃ q, qs[i]? = some q ∧ oneQ q = z := by simpa using hz
    have hs := leastR_succ less one hq
    have hm : leastR less one (qs.take i) = one ∨ leastR less one (qs.take i) ∈ qs := (leastR_mem less one (qs.take i)).imp id fun h => List.mem_of_mem_take h
    generalize leastR less one (qs.take i) = st at h4 hs hm
    repeat (first | (with_reducible first | refine AWi.seqK fun _ => ?_ | refine AWi.blockK fun _ => ?_ | refine KI.go ?_) | ((first | refine AWi.region tabOk ?_ | refine AWi.condK fun _ _ => ?_ | refine AWi.draws tabOk rfl (by kernel_rfl) (by kernel_rfl) ?_); simp [-getElem?_pos, z0, z1, z2, putAll, oneQ, ratD]) | ((first | refine AWi.ret ?_ | refine AWi.skip ?_ | refine AWi.exit ?_); try simp only [thenP]) | (with_reducible refine BB.go ?_; simp only [blockP, thenP, reduceIte]) | (with_reducible refine And.intro (okLog_c (by simp [footOf, guardSlot, slotsOf, idsRead, looks, idsOf, idsOf1, idsWritten, colF]; kernel_rfl)) ?_))
    refine RB.go (by omega) (fun j hj => by simp [show ¬ j = n2 by omega]) fun rc hrc qq => ?_
    have e0 : ¬ n + 1 + 1 = n2 := by omega
    have e1 : ¬ n + 1 = n2 := by omega
    have e2 : ¬ n + 1 + 1 + 1 + 1 = n2 := by omega
    have e3 : ¬ n2 = n + 1 + 1 + 1 + 1 + 1 + 1 + 1 := by omega
    have e4 : ¬ n + 1 + 1 + 1 + 1 + 1 + 1 + 1 = n2 := by omega
    repeat (first | (with_reducible first | refine AWi.seqK fun _ => ?_ | refine AWi.blockK fun _ => ?_ | refine KI.go ?_) | ((first | refine AWi.region tabOk ?_ | refine AWi.condK fun _ _ => ?_ | refine AWi.draws tabOk rfl (by kernel_rfl) (by kernel_rfl) ?_); simp [-getElem?_pos, z0, z1, z2, h2, h3, h4, e0, e1, e2, e3]) | ((first | refine AWi.ret ?_ | refine AWi.skip ?_ | refine AWi.exit ?_); try simp only [thenP]) | (with_reducible refine BB.go ?_; simp only [blockP, thenP, reduceIte]) | (with_reducible refine And.intro (okLog_c (by simp [footOf, guardSlot, slotsOf, idsRead, looks, idsOf, idsOf1, idsWritten, colF]; kernel_rfl)) ?_))
    refine ExecI.callY (Y := B) (xs := [ratV q, ratV st]) (hby q (List.mem_of_getElem? hq) st hm _ _ (by omega)) rfl (by simp [calleeV, evList, ratV]) ?_
    rintro b n3 m3 ⟨k1, k2, rfl⟩
    have f2 : m3 (n + 1) = some (.box 54 [B] false) := (k2 _ (by omega)).trans (by simp [e1, h2])
    have f3 : m3 (n + 1 + 1) = some (.box 25 [.d (.val (.int .i64 0)), .d (.val (.int .i64 0))] false) := (k2 _ (by omega)).trans (by simp [e0, h3])
    have f4 : m3 (n + 1 + 1 + 1 + 1) = some (.box 25 [.d (iD st.1), .d (iD st.2)] false) := (k2 _ (by omega)).trans (by simp [e2, h4])
    have f5 : m3 n2 = some (.box 25 [.d (iD q.1), .d (iD q.2)] false) := (k2 _ (by omega)).trans (by simp [e3])
    have f1 : ∀ j, j < n → m3 j = m j := fun j hj => (k2 j (by omega)).trans (by simp [show ¬ j = n2 by omega, show ¬ j = n + 1 + 1 + 1 + 1 + 1 + 1 + 1 by omega]; exact h1 j hj)
    have ke : ∀ j, n + 1 + 1 + 1 + 1 + 1 + 1 + 1 ≤ j → j < n2 + 1 + 1 → m3 j = setMem (setMem (setMem m2 n2 (some (.box 25 [.d (.val (.int .i64 0)), .d (.val (.int .i64 0))] false))) n2 (some (.box 25 [.d (iD q.1), .d (iD q.2)] false))) (n + 1 + 1 + 1 + 1 + 1 + 1 + 1) rc j := fun j _ j2 => k2 j (by omega)
    cases hc : less q st <;> rw [hc] at hs <;> simp [-getElem?_pos, z0, z1, z2]
    · repeat (first | (with_reducible first | refine AWi.seqK fun _ => ?_ | refine AWi.blockK fun _ => ?_ | refine KI.go ?_) | ((first | refine AWi.region tabOk ?_ | refine AWi.condK fun _ _ => ?_ | refine AWi.draws tabOk rfl (by kernel_rfl) (by kernel_rfl) ?_); simp [-getElem?_pos, z0, z1, z2, f2]) | ((first | refine AWi.ret ?_ | refine AWi.skip ?_ | refine AWi.exit ?_); try simp only [thenP]) | (with_reducible refine BB.go ?_; simp only [blockP, thenP, reduceIte]) | (with_reducible refine And.intro (okLog_c (by simp [footOf, guardSlot, slotsOf, idsRead, looks, idsOf, idsOf1, idsWritten, colF]; kernel_rfl)) ?_))
      refine RE.normal (by omega) ke ?_
      rw [hs]
      exact ⟨f1, f2, f3, f4⟩
    · repeat (first | (with_reducible first | refine AWi.seqK fun _ => ?_ | refine AWi.blockK fun _ => ?_ | refine KI.go ?_) | ((first | refine AWi.region tabOk ?_ | refine AWi.condK fun _ _ => ?_ | refine AWi.draws tabOk rfl (by kernel_rfl) (by kernel_rfl) ?_); simp [-getElem?_pos, z0, z1, z2, f2, f4, f5, e3]) | ((first | refine AWi.ret ?_ | refine AWi.skip ?_ | refine AWi.exit ?_); try simp only [thenP]) | (with_reducible refine BB.go ?_; simp only [blockP, thenP, reduceIte]) | (with_reducible refine And.intro (okLog_c (by simp [footOf, guardSlot, slotsOf, idsRead, looks, idsOf, idsOf1, idsWritten, colF]; kernel_rfl)) ?_))
      refine RE.normal (by omega) ?_ ?_
      · intro j j1 j2
        simp [show ¬ j = n + 1 + 1 + 1 + 1 by omega]
        exact ke j j1 j2
      · rw [hs]
        refine ⟨fun j hj => ?_, by simp [f2], by simp [f3], by simp⟩
        simp [show ¬ j = n + 1 + 1 + 1 + 1 by omega]
        exact f1 j hj
  · rintro n' m' hn' ⟨h1, h2, h3, h4⟩
    simp only [thenP]
    rw [List.length_map, List.take_length] at h4
    repeat (first | (with_reducible first | refine AWi.seqK fun _ => ?_ | refine AWi.blockK fun _ => ?_ | refine KI.go ?_) | ((first | refine AWi.region tabOk ?_ | refine AWi.condK fun _ _ => ?_ | refine AWi.draws tabOk rfl (by kernel_rfl) (by kernel_rfl) ?_); simp [-getElem?_pos, z0, z1, z2, h3, h4]) | ((first | refine AWi.ret ?_ | refine AWi.skip ?_ | refine AWi.exit ?_); try simp only [thenP]) | (with_reducible refine BB.go ?_; simp only [blockP, thenP, reduceIte]) | (with_reducible refine And.intro (okLog_c (by simp [footOf, guardSlot, slotsOf, idsRead, looks, idsOf, idsOf1, idsWritten, colF]; kernel_rfl)) ?_))
    refine RI.ret (xs := [ratV (leastR less one qs)]) (by simp [Try.results84, resSlots, resSlot, ratV]) ?_
    refine ⟨by omega, fun j hj => ?_, rfl⟩
    simp [show ¬ j = n + 1 + 1 by omega]
    exact h1 j hj
  · exact fun _ _ _ _ h => h.elim
end Go.Proofs.Ytjjoiihgpkhndaa.Eng


noncomputable section
namespace Go.Proofs.Ytjjoiihgpkhndaa.Eng
open Go.RowKit
variable {P : Program} {T : Tab} {r : Option Nat} {ns : Nat}
open Classical in
theorem op_frameM {W0 : Fix} {R0 D : Nat → Prop} {s : St} {E : Env} {a : Act} {w : World} {m0 m1 : Mem} {nid : Nat} {o : Oper} {x : SV} (h : Sim W0 R0 ns D s E a w) (hm : ∀ i b, m0 i = some b → s.mem i = some b)
    (hrun : ∀ (W1 : Fix) (R1 : Nat → Prop), Sim W1 R1 ns D ⟨s.slots, m0⟩ E a w → ∃ E' w', Sim W1 R1 ns (fun k => k = nid ∨ D k) ⟨s.slots, m1⟩ E' a w' ∧ ((∃ v, (execOp a.eval o).run P w = .ok (.value v) w' ∧ Rep E' w' x v) ∨ ((execOp a.eval o).run P w = .ok .skip w' ∧ x = .und))) (hT : ∀ i b, m1 i = some b → (m0 i).isSome = true ∨ i = nid) (hnid : ¬ D nid) :
    ∃ E' w', Sim W0 R0 ns (fun k => k = nid ∨ D k) ⟨s.slots, over s.mem m0 m1 nid⟩ E' a w' ∧ ((∃ v, (execOp a.eval o).run P w = .ok (.value v) w' ∧ Rep E' w' x v) ∨ ((execOp a.eval o).run P w = .ok .skip w' ∧ x = .und)) := by
  let W1 : Fix := { w := w, U := fun b => b < w.heap.size ∧ ∀ i c, m0 i = some c → (E.home i).blk ≠ b, lt := fun _ h => h.1, g := W0.g, ds := W0.ds, e0 := E }
  have hU : ∀ b, W0.U b → W1.U b := fun b hb => ⟨Nat.lt_of_lt_of_le (W0.lt b hb) h.below.size, fun i c hi e => h.base i c (hm i c hi) (e ▸ hb)⟩
  have hUn : ∀ i b, s.mem i = some b → ¬ (m0 i).isSome = true → W1.U (E.home i).blk := fun i b hi hn => ⟨(h.mem i b hi).lt, fun j c hj => h.inj j i c b (hm j c hj) hi fun e => hn (by rw [← e, hj]; rfl)⟩
  have h1 : Sim W1 E.ro ns D ⟨s.slots, m0⟩ E a w := ⟨Kept.refl _ _, fun _ h => h, fun _ h => .inl h, h.rlt, h.size, h.dfr, h.slot, h.dom, fun i b hi => h.live i b (hm i b hi), fun i b hi => h.mem i b (hm i b hi), fun i b hi h2 => h2.2 i b hi rfl, fun i b hi => h.frz i b (hm i b hi), fun i j b c hi hj hn => h.inj i j b c (hm i b hi) (hm j c hj) hn, fun i hi => ⟨hi, rfl⟩, fun b hb => ⟨hb, rfl⟩⟩
  obtain ⟨E', w', h2, h3⟩ := hrun W1 E.ro h1
  have hle : E.le E' := ⟨h2.ro0, fun i hi => (h2.le0 i hi).1, fun i hi => (h2.le0 i hi).2⟩
  have hw : ∀ b, E.ro b → w'.heap[b]? = w.heap[b]? := fun b hb => (h2.re0 b hb).2
  have hro : ∀ b, E'.ro b → E.ro b ∨ ¬ W1.U b := h2.ro1
  have cases_ : ∀ i b, over s.mem m0 m1 nid i = some b → (((m0 i).isSome = true ∨ i = nid) ∧ m1 i = some b) ∨ (¬ ((m0 i).isSome = true ∨ i = nid) ∧ s.mem i = some b) := fun i b hb => by
    unfold over at hb
    split at hb
    · rename_i c; exact .inl ⟨c, hb⟩
    · rename_i c; exact .inr ⟨c, hb⟩
  refine ⟨E', w', ⟨h.below.trans (h2.below.mono hU), fun b hb => hle.ro b (h.ro0 b hb), fun b hb => ?_, h2.rlt, h2.size, h2.dfr, h2.slot, h2.dom, fun i b hi => ?_, fun i b hi => ?_, fun i b hi => ?_, fun i b hi => ?_, fun i j b c hi hj hn => ?_, fun i hi => ?_, fun b hb => ?_⟩, h3⟩
  · rcases hro b hb with h4 | h4
    · exact h.ro1 b h4
    · exact .inr fun h5 => h4 (hU b h5)
  · rcases cases_ i b hi with ⟨_, h5⟩ | ⟨_, h5⟩
    · exact h2.live i b h5
    · exact hle.dom i (h.live i b h5)
  · rcases cases_ i b hi with ⟨_, h5⟩ | ⟨h4, h5⟩
    · exact h2.mem i b h5
    · show Holds E' w' (E'.home i) b
      rw [hle.home i (h.live i b h5)]
      exact (h.mem i b h5).keep hle hw (h2.below.block _ (hUn i b h5 fun hs => h4 (.inl hs)))
  · rcases cases_ i b hi with ⟨_, h5⟩ | ⟨_, h5⟩
    · exact fun h6 => h2.base i b h5 (hU _ h6)
    · show ¬ W0.U (E'.home i).blk
      rw [hle.home i (h.live i b h5)]
      exact h.base i b h5
  · rcases cases_ i b hi with ⟨_, h5⟩ | ⟨h4, h5⟩
    · exact h2.frz i b h5
    · show b.frz = true ↔ E'.ro (E'.home i).blk
      rw [hle.home i (h.live i b h5)]
      refine (h.frz i b h5).trans ⟨fun h => hle.ro _ h, fun h6 => ?_⟩
      rcases hro _ h6 with h7 | h7
      · exact h7
      · exact absurd (hUn i b h5 fun hs => h4 (.inl hs)) h7
  · show (E'.home i).blk ≠ (E'.home j).blk
    rcases cases_ i b hi with ⟨_, h5⟩ | ⟨h4, h5⟩
    · rcases cases_ j c hj with ⟨_, k5⟩ | ⟨k4, k5⟩
      · exact h2.inj i j b c h5 k5 hn
      · rw [hle.home j (h.live j c k5)]
        exact fun e => h2.base i b h5 (e ▸ hUn j c k5 fun hs => k4 (.inl hs))
    · rcases cases_ j c hj with ⟨_, k5⟩ | ⟨k4, k5⟩
      · rw [hle.home i (h.live i b h5)]
        exact fun e => h2.base j c k5 (e ▸ hUn i b h5 fun hs => h4 (.inl hs))
      · rw [hle.home i (h.live i b h5), hle.home j (h.live j c k5)]
        exact h.inj i j b c h5 k5 hn
  · exact ⟨hle.dom i (h.le0 i hi).1, (hle.home i (h.le0 i hi).1).trans (h.le0 i hi).2⟩
  · exact ⟨hle.ro b (h.re0 b hb).1, (hw b (h.re0 b hb).1).trans (h.re0 b hb).2⟩
open Classical in
theorem ncall_ofM {f : FuncId} {svs : List SV} {n : Nat} {m0 : Mem} {n1 : Nat} {y0 : SV} {mq : Mem} (h : CWp P f svs n m0 fun y n' m' => y0 = y ∧ n1 = n' ∧ mq = m') (hlt : ∀ i b, m0 i = some b → i < n) (hm0 : ∀ i b, m0 i = some b → OfB (fun i => (m0 i).isSome = true) b) (hargs : ∀ x ∈ svs, Of (fun i => (m0 i).isSome = true) x)
    (hq : ∀ i b, mq i = some b → ((m0 i).isSome = true ∨ New n n1 i) ∧ OfB (fun i => (m0 i).isSome = true ∨ New n n1 i) b) (hy : Of (fun i => (m0 i).isSome = true ∨ New n n1 i) y0) : NCall P f svs m0 n n1 y0 mq :=
  ⟨h.callable, fun W0 R0 D m E w vs hD hm M h1 h2 => by
    have some_of : ∀ i, (m0 i).isSome = true → ∃ b, m0 i = some b := fun i hi => Option.isSome_iff_exists.1 hi
    let W1 : Fix := { w := w, U := fun b => b < w.heap.size ∧ ∀ i c, m0 i = some c → (E.home i).blk ≠ b, lt := fun _ h => h.1, g := fun _ => undef }
    have hU : ∀ b, W0.U b → W1.U b := fun b hb => ⟨Nat.lt_of_lt_of_le (W0.lt b hb) M.below.size, fun i c hi e => M.base i c (hm i c hi) (e ▸ hb)⟩
    have hUn : ∀ i b, m i = some b → ¬ (m0 i).isSome = true → W1.U (E.home i).blk := fun i b hi hn => ⟨(M.mem i b hi).lt, fun j c hj => M.inj j i c b (hm j c hj) hi fun e => hn (by rw [← e, hj]; rfl)⟩
    let E0 : Env := { E with dom := fun i => E.dom i ∧ (m0 i).isSome = true }
    have M0 : MS W1 E.ro (· < n) m0 E0 w := ⟨Kept.refl _ _, fun _ h => h, fun _ h => .inl h, M.rlt, fun i hi => by obtain ⟨b, hb⟩ := some_of i hi.2; exact hlt i b hb, fun i b hi => ⟨M.live i b (hm i b hi), by rw [hi]; rfl⟩, fun i b hi => Holds.of (E := E) (E0 := E0) rfl (fun i a b => ⟨a, b⟩) (fun _ _ _ => rfl) (M.mem i b (hm i b hi)) (hm0 i b hi), fun i b hi h => h.2 i b hi rfl, fun i b hi => M.frz i b (hm i b hi), fun i j b c hi hj hn => M.inj i j b c (hm i b hi) (hm j c hj) hn⟩
    refine ((h.calls W1 E.ro E0 w vs M0 h1 fun i x v hx hv => Rep.of (E := E) (E0 := E0) rfl (fun i a b => ⟨a, b⟩) (fun _ _ _ => rfl) (h2 i x v hx hv) (hargs x (List.mem_of_getElem? hx)))).mono ?_
    rintro e w' ⟨v, E', n', m', y, rfl, M2, hE, hw, hv, rfl, rfl, rfl⟩
    have hro : ∀ b, E'.ro b → E.ro b ∨ ¬ W1.U b := M2.ro1
    let E2 : Env := { E' with dom := fun i => E.dom i ∨ (New n n1 i ∧ E'.dom i), home := fun i => if New n n1 i then E'.home i else E.home i }
    have live0 : ∀ i, (m0 i).isSome = true → E.dom i := fun i hi => by obtain ⟨b, hb⟩ := some_of i hi; exact M.live i b (hm i b hb)
    have not_new : ∀ i, E.dom i → ¬ New n n1 i := fun i hi => hD i (M.dom i hi)
    have home2 : ∀ i, (m0 i).isSome = true ∨ New n n1 i → E2.home i = E'.home i := fun i hi => by
      by_cases hn : New n n1 i
      · show (if New n n1 i then E'.home i else E.home i) = _
        rw [if_pos hn]
      · show (if New n n1 i then E'.home i else E.home i) = _
        rw [if_neg hn]
        have hs := hi.resolve_right hn
        exact (hE.home i ⟨live0 i hs, hs⟩).symm
    have homeE : ∀ i, E.dom i → E2.home i = E.home i := fun i hi => by
      show (if New n n1 i then E'.home i else E.home i) = _
      rw [if_neg (not_new i hi)]
    have dom2 : ∀ i, E'.dom i → (m0 i).isSome = true ∨ New n n1 i → E2.dom i := fun i hd hi => by
      rcases hi with hi | hi
      · exact .inl (live0 i hi)
      · exact .inr ⟨hi, hd⟩
    have hle : E.le E2 := ⟨hE.ro, fun _ h => .inl h, homeE⟩
    have cases_ : ∀ i b, behind m m0 mq n n1 i = some b → (((m0 i).isSome = true ∨ New n n1 i) ∧ mq i = some b) ∨ (¬ ((m0 i).isSome = true ∨ New n n1 i) ∧ m i = some b) := fun i b hb => by
      unfold behind at hb
      split at hb
      · rename_i c; exact .inl ⟨c, hb⟩
      · rename_i c; exact .inr ⟨c, hb⟩
    refine ⟨v, E2, rfl, ⟨M.below.trans (M2.below.mono hU), fun b hb => hE.ro b (M.ro0 b hb), fun b hb => ?_, M2.rlt, fun i hi => ?_, fun i b hi => ?_, fun i b hi => ?_, fun i b hi => ?_, fun i b hi => ?_, fun i j b c hi hj hn => ?_⟩, hle, hw, ?_⟩
    · rcases hro b hb with h3 | h3
      · exact M.ro1 b h3
      · exact .inr fun h4 => h3 (hU b h4)
    · rcases hi with hi | hi
      · exact .inl (M.dom i hi)
      · exact .inr hi.1
    · rcases cases_ i b hi with ⟨h3, h4⟩ | ⟨_, h4⟩
      · exact dom2 i (M2.live i b h4) h3
      · exact .inl (M.live i b h4)
    · rcases cases_ i b hi with ⟨h3, h4⟩ | ⟨h3, h4⟩
      · rw [home2 i h3]
        exact Holds.of (E := E') (E0 := E2) rfl dom2 (fun i _ hs => home2 i hs) (M2.mem i b h4) (hq i b h4).2
      · rw [homeE i (M.live i b h4)]
        exact (M.mem i b h4).keep hle hw (M2.below.block _ (hUn i b h4 fun hs => h3 (.inl hs)))
    · rcases cases_ i b hi with ⟨h3, h4⟩ | ⟨h3, h4⟩
      · rw [home2 i h3]
        exact fun h5 => M2.base i b h4 (hU _ h5)
      · rw [homeE i (M.live i b h4)]
        exact M.base i b h4
    · rcases cases_ i b hi with ⟨h3, h4⟩ | ⟨h3, h4⟩
      · rw [home2 i h3]
        exact M2.frz i b h4
      · rw [homeE i (M.live i b h4)]
        refine (M.frz i b h4).trans ⟨fun h => hE.ro _ h, fun h => ?_⟩
        rcases hro _ h with h5 | h5
        · exact h5
        · exact absurd (hUn i b h4 fun hs => h3 (.inl hs)) h5
    · rcases cases_ i b hi with ⟨h3, h4⟩ | ⟨h3, h4⟩
      · rcases cases_ j c hj with ⟨k3, k4⟩ | ⟨k3, k4⟩
        · rw [home2 i h3, home2 j k3]
          exact M2.inj i j b c h4 k4 hn
        · rw [home2 i h3, homeE j (M.live j c k4)]
          exact fun e => M2.base i b h4 (e ▸ hUn j c k4 fun hs => k3 (.inl hs))
      · rcases cases_ j c hj with ⟨k3, k4⟩ | ⟨k3, k4⟩
        · rw [homeE i (M.live i b h4), home2 j k3]
          exact fun e => M2.base j c k4 (e ▸ hUn i b h4 fun hs => h3 (.inl hs))
        · rw [homeE i (M.live i b h4), homeE j (M.live j c k4)]
          exact M.inj i j b c h4 k4 hn
    · exact Rep.of (E := E') (E0 := E2) rfl dom2 (fun i _ hs => home2 i hs) hv hy⟩
/-! ### What an operation touches -/
structure EnV where
  k : Kd3
  n : Nat
  s : St
  n' : Nat
  s' : St
  rd : List Nat
def EnV.reads (e : EnV) : List Nat := match e.k with
  | .pure _ ids => ids
  | .act _ _ => e.rd
  | .off => []
def EnV.tch (e : EnV) (b : Nat) : Prop := match e.k with
  | .act _ R => b ∈ R ∨ New e.n e.n' b
  | _ => False
open Classical in
structure EnVOk (P : Program) (r : Option Nat) (ns : Nat) (ops : Array Oper) (o : Oper) (e : EnV) : Prop where
  k : match e.k with
    | .off => guardS ops ns e.s o = some false ∧ e.n' = e.n ∧ e.s' = ⟨setSlot e.s.slots o.dst (.tup []), e.s.mem⟩
    | .pure x ids => guardS ops ns e.s o = some true ∧ (∀ (s' : St) (D : Nat → Prop) (N : Nat), (∀ i, D i → i < N) → (∀ t ∈ slotsOf o.op, s'.slots t = e.s.slots t) → (∀ i ∈ ids, s'.mem i = e.s.mem i) → StepD P r ns D D s' o ⟨setSlot s'.slots o.dst x, s'.mem⟩) ∧ e.n' = e.n ∧ e.s' = ⟨setSlot e.s.slots o.dst x, e.s.mem⟩
    | .act y R => guardS ops ns e.s o = some true ∧ (∀ (D : Nat → Prop) (s' : St), (∀ i, D i → ¬ New e.n e.n' i) → (∀ t ∈ slotsOf o.op, s'.slots t = e.s.slots t) → (∀ i ∈ R, s'.mem i = e.s.mem i) → (∀ i ∈ e.rd, s'.mem i = e.s.mem i) →
        StepD P r ns D (fun i => D i ∨ New e.n e.n' i) s' o ⟨setSlot s'.slots o.dst y, fun i => if i ∈ R ∨ New e.n e.n' i then e.s'.mem i else s'.mem i⟩) ∧ e.n ≤ e.n' ∧ e.s'.slots = setSlot e.s.slots o.dst y ∧ ∀ i, ¬ (i ∈ R ∨ New e.n e.n' i) → e.s'.mem i = e.s.mem i
inductive ChainV (P : Program) (r : Option Nat) (ns : Nat) (ops : Array Oper) : List Oper → List EnV → Nat → St → Nat → St → Prop
  | nil (n s) : ChainV P r ns ops [] [] n s n s
  | cons {o l e es nF sF} : EnVOk P r ns ops o e → ChainV P r ns ops l es e.n' e.s' nF sF → ChainV P r ns ops (o :: l) (e :: es) e.n e.s nF sF
def stV (es : List EnV) (sF : St) (k : Nat) : St := match es[k]? with
  | some e => e.s
  | none => sF
def nV (es : List EnV) (nF : Nat) (k : Nat) : Nat := match es[k]? with
  | some e => e.n
  | none => nF
def kdV (es : List EnV) (k : Nat) : Kd3 := match es[k]? with
  | some e => e.k
  | none => .off
theorem chainV_len {ops : Array Oper} {l : List Oper} {es : List EnV} {n nF : Nat} {s sF : St} (h : ChainV P r ns ops l es n s nF sF) : es.length = l.length := by
  induction h with
  | nil => rfl
  | cons _ _ ih => simp [ih]
theorem chainV_zero {ops : Array Oper} {l : List Oper} {es : List EnV} {n nF : Nat} {s sF : St} (h : ChainV P r ns ops l es n s nF sF) : stV es sF 0 = s ∧ nV es nF 0 = n := by
  cases h with
  | nil => exact ⟨rfl, rfl⟩
  | cons => exact ⟨rfl, rfl⟩
theorem chainV_at {ops : Array Oper} {l : List Oper} {es : List EnV} {n nF : Nat} {s sF : St} (h : ChainV P r ns ops l es n s nF sF) : ∀ (k : Nat) o, l[k]? = some o → ∃ e, es[k]? = some e ∧ EnVOk P r ns ops o e ∧ (stV es sF k = e.s ∧ nV es nF k = e.n) ∧ stV es sF (k + 1) = e.s' ∧ nV es nF (k + 1) = e.n' := by
  induction h with
  | nil => intro k o hk; simp at hk
  | @cons o l e es nF sF he hc ih =>
    intro k o' hk
    match k with
    | 0 =>
      simp only [List.getElem?_cons_zero, Option.some.injEq] at hk
      subst hk
      exact ⟨e, rfl, he, ⟨rfl, rfl⟩, chainV_zero hc⟩
    | k + 1 =>
      obtain ⟨e', h1, h2, h3, h4⟩ := ih k o' (by simpa using hk)
      exact ⟨e', by simpa using h1, h2, h3, h4⟩
theorem chainV_end {ops : Array Oper} {l : List Oper} {es : List EnV} {n nF : Nat} {s sF : St} (h : ChainV P r ns ops l es n s nF sF) : stV es sF l.length = sF ∧ nV es nF l.length = nF := by
  unfold stV nV
  rw [List.getElem?_eq_none (by rw [chainV_len h]; omega)]
  exact ⟨rfl, rfl⟩
def FreeV (a e : EnV) : Prop := (∀ b, ¬ (a.tch b ∧ e.tch b)) ∧ (∀ i ∈ e.reads, ¬ a.tch i) ∧ ∀ i ∈ a.reads, ¬ e.tch i
theorem draw3_V {l : List Oper} {es : List EnV} {n nF : Nat} {s sF : St} (h : ChainV P r ns l.toArray l es n s nF sF) (hst : stOk l.toArray = true) (hp : ∀ i k ei ek, i < k → es[i]? = some ei → es[k]? = some ek → ordB l i k = true ∨ FreeV ei ek) :
    Draw3 P r ns l (stV es sF) (nV es nF) (kdV es) := by
  have hlen := chainV_len h
  have at_ : ∀ (k : Nat), k < l.length → ∃ o e, l[k]? = some o ∧ es[k]? = some e ∧ EnVOk P r ns l.toArray o e ∧ (stV es sF k = e.s ∧ nV es nF k = e.n) ∧ stV es sF (k + 1) = e.s' ∧ nV es nF (k + 1) = e.n' := fun k hk => by
    obtain ⟨e, h1, h2, h3, h4⟩ := chainV_at h k _ (List.getElem?_eq_getElem hk)
    exact ⟨_, e, List.getElem?_eq_getElem hk, h1, h2, h3, h4⟩
  unfold stOk at hst
  rw [Bool.and_eq_true] at hst
  have bitD : ∀ {i k : Nat}, ordB l i k = true → Anc l i k := fun {i k} hb => ancs_ok l [] [] rfl rfl (fun k i hk => by simp at hk) k i hb
  have bit : ∀ {i k b : Nat}, (ancs l [])[k]? = some b → b.testBit i = true → Anc l i k := fun {i k b} hb hbt => bitD (by unfold ordB; rw [List.getD_eq_getElem?_getD, hb]; simpa using hbt)
  have tchV : ∀ k e i, es[k]? = some e → tch (nV es nF) (kdV es) k i → e.tch i := fun k e i he ht => by
    have hk : k < l.length := by rw [← hlen]; exact (List.getElem?_eq_some_iff.1 he).1
    obtain ⟨y, R, hkd, ht⟩ := ht
    obtain ⟨o, e', _, g1, _, g3, g4⟩ := at_ k hk
    rw [he] at g1
    cases g1
    simp only [kdV, he] at hkd
    simp only [New, g3.2, g4.2] at ht
    unfold EnV.tch
    rw [hkd]
    exact ht
  refine ⟨fun k o hk => ?_, fun k hk i hi => ?_, fun k hk => ?_, fun k o hk hd => ?_, fun k o x ids hk hd => ?_, fun k o y R hk hd => ?_, fun i k oi ok t hik hi hk ht => ?_, fun i k b hik hk hi he => ?_⟩
  · obtain ⟨e, g1, g2, g3, g4⟩ := chainV_at h k o hk
    have hk2 := g2.k
    rw [g3.1, g4.1]
    simp only [kdV, g1]
    cases hek : e.k with
    | off => rw [hek] at hk2; rw [hk2.2.2]; rfl
    | pure x ids => rw [hek] at hk2; rw [hk2.2.2.2]; rfl
    | act y R => rw [hek] at hk2; rw [hk2.2.2.2.1]; rfl
  · obtain ⟨o, e, _, g1, g2, g3, g4⟩ := at_ k hk
    have hk2 := g2.k
    rw [g3.1, g4.1]
    cases hek : e.k with
    | off => rw [hek] at hk2; rw [hk2.2.2]
    | pure x ids => rw [hek] at hk2; rw [hk2.2.2.2]
    | act y R =>
      rw [hek] at hk2
      refine hk2.2.2.2.2 i fun hc => hi ⟨y, R, by simp only [kdV, g1, hek], ?_⟩
      simp only [g3.2, g4.2]
      exact hc
  · obtain ⟨o, e, _, g1, g2, g3, g4⟩ := at_ k hk
    have hk2 := g2.k
    rw [g3.2, g4.2]
    cases hek : e.k with
    | off => rw [hek] at hk2; rw [hk2.2.1]; exact Nat.le_refl _
    | pure x ids => rw [hek] at hk2; rw [hk2.2.2.1]; exact Nat.le_refl _
    | act y R => rw [hek] at hk2; exact hk2.2.2.1
  · obtain ⟨e, g1, g2, g3, g4⟩ := chainV_at h k o hk
    simp only [kdV, g1] at hd
    have hk2 := g2.k
    rw [hd] at hk2
    rw [g3.1]
    exact hk2.1
  · obtain ⟨e, g1, g2, g3, g4⟩ := chainV_at h k o hk
    simp only [kdV, g1] at hd
    have hk2 := g2.k
    rw [hd] at hk2
    obtain ⟨j0, hj0⟩ := fresh_nat ids
    have hkl : k < l.length := (List.getElem?_eq_some_iff.1 hk).1
    rw [g3.1]
    refine ⟨hk2.1, j0, fun i hi _ e' he' ht => ?_, fun p _ _ _ D s' hDN hsl hme _ => hk2.2.1 s' D _ hDN hsl fun i hi => hme i hi (Nat.ne_of_lt (hj0 i hi))⟩
    obtain ⟨o', ee, _, q1, _⟩ := at_ e' he'
    have h9 := tchV e' ee i q1 ht
    have hri : i ∈ e.reads := by unfold EnV.reads; rw [hd]; exact hi
    refine ⟨fun hlt => ?_, fun hlt => ?_⟩
    · rcases hp e' k ee e hlt q1 g1 with q | q
      · exact bitD q
      · exact absurd h9 (q.2.1 i hri)
    · rcases hp k e' e ee hlt g1 q1 with q | q
      · exact bitD q
      · exact absurd h9 (q.2.2 i hri)
  · obtain ⟨e, g1, g2, g3, g4⟩ := chainV_at h k o hk
    simp only [kdV, g1] at hd
    have hk2 := g2.k
    rw [hd] at hk2
    rw [g3.1, g3.2, g4.1, g4.2]
    refine ⟨hk2.1, e.rd, fun i hi e' he' hne ht => ?_, fun D s' _ hD hsl hR hI => hk2.2.1 D s' hD hsl hR hI⟩
    obtain ⟨o', ee, _, q1, _⟩ := at_ e' he'
    have h9 := tchV e' ee i q1 ht
    have hri : i ∈ e.reads := by unfold EnV.reads; rw [hd]; exact hi
    refine ⟨fun hlt => ?_, fun hlt => ?_⟩
    · rcases hp e' k ee e hlt q1 g1 with q | q
      · exact bitD q
      · exact absurd h9 (q.2.1 i hri)
    · rcases hp k e' e ee hlt g1 q1 with q | q
      · exact bitD q
      · exact absurd h9 (q.2.2 i hri)
  · have a1 : (l.toArray.toList.map fun o => (maskL (guardSlot l.toArray o ++ slotsOf o.op), maskL o.dst.toList))[i]? = some (maskL (guardSlot l.toArray oi ++ slotsOf oi.op), maskL oi.dst.toList) := by simp [hi]
    have a2 : (l.toArray.toList.map fun o => (maskL (guardSlot l.toArray o ++ slotsOf o.op), maskL o.dst.toList))[k]? = some (maskL (guardSlot l.toArray ok ++ slotsOf ok.op), maskL ok.dst.toList) := by simp [hk]
    obtain ⟨b, hb, h5⟩ := stAll_spec hst.2 (by rw [ancs_len]; simp) i k _ _ hik a1 a2
    rcases h5 with h5 | h6
    · exact bit hb (by simpa using h5)
    · exfalso
      obtain ⟨h7, h8⟩ := or_zero h6
      rcases ht with ⟨ht, h9⟩ | ⟨ht, h9⟩
      · refine and_bit h7 (x := t) (maskL_mem (by simp [ht])) ?_
        rw [Nat.testBit_or, Bool.or_eq_true]
        rcases h9 with h9 | h9 | h9
        · exact .inr (maskL_mem (by simp [h9]))
        · exact .inl (maskL_mem (List.mem_append_left _ h9))
        · exact .inl (maskL_mem (List.mem_append_right _ h9))
      · refine and_bit h8 (x := t) (maskL_mem ?_) (maskL_mem (by simp [ht]))
        rcases h9 with h9 | h9
        · exact List.mem_append_left _ h9
        · exact List.mem_append_right _ h9
  · obtain ⟨o1, e1, _, q1, _⟩ := at_ i (by omega)
    obtain ⟨o2, e2, _, q2, _⟩ := at_ k hk
    rcases hp i k e1 e2 hik q1 q2 with q | q
    · exact bitD q
    · exact absurd ⟨tchV i e1 b q1 hi, tchV k e2 b q2 he⟩ (q.1 b)
/-! ### The same as it is walked -/
structure FtV where
  n : Nat
  n' : Nat
  wr : List Nat
  rd : List Nat
def EnV.wr (e : EnV) : List Nat := match e.k with
  | .act _ R => R
  | _ => []
def EnV.ft (e : EnV) : FtV := ⟨e.n, e.n', e.wr, e.reads⟩
def AllAcc (f : Nat → FtV → Prop) : Nat → List FtV → Prop
  | _, [] => True
  | i, a :: acc => f i a ∧ AllAcc f (i + 1) acc
theorem allAcc_at {f : Nat → FtV → Prop} : ∀ {acc : List FtV} {i : Nat}, AllAcc f i acc → ∀ j a, acc[j]? = some a → f (i + j) a
  | [], i, _, j, a, h => by simp at h
  | a0 :: acc, i, hf, 0, a, h => by simp at h; subst h; exact hf.1
  | a0 :: acc, i, hf, j + 1, a, h => by
    have := allAcc_at hf.2 j a (by simpa using h)
    rwa [show i + 1 + j = i + (j + 1) by omega] at this
def IdOk (l : List Oper) (k n0 : Nat) (acc : List FtV) (id : Nat) : Prop := (id < n0 ∧ AllAcc (fun _ a => id ∉ a.wr) 0 acc) ∨ AllAcc (fun i a => ordB l i k = true ∨ (id ∉ a.wr ∧ ¬ (a.n ≤ id ∧ id < a.n'))) 0 acc
def OkV (l : List Oper) (k n0 : Nat) (acc : List FtV) (e : FtV) : Prop := (∀ id ∈ e.wr ++ e.rd, id < e.n ∧ IdOk l k n0 acc id) ∧ (e.wr = [] ∨ AllAcc (fun i a => ordB l i k = true ∨ ∀ id ∈ e.wr, id ∉ a.rd) 0 acc)
def ExecV (P : Program) (r : Option Nat) (ns : Nat) (l0 : List Oper) (n0 : Nat) : List Oper → Nat → St → List FtV → (Nat → St → Prop) → Prop
  | [], n, s, _, Q => Q n s
  | o :: l, n, s, acc, Q => ∃ e : EnV, e.n = n ∧ e.s = s ∧ EnVOk P r ns l0.toArray o e ∧ OkV l0 acc.length n0 acc e.ft ∧ ExecV P r ns l0 n0 l e.n' e.s' (acc ++ [e.ft]) Q
theorem EnVOk.le {ops : Array Oper} {o : Oper} {e : EnV} (h : EnVOk P r ns ops o e) : e.n ≤ e.n' := by
  have hk := h.k
  cases hek : e.k with
  | off => rw [hek] at hk; rw [hk.2.1]; exact Nat.le_refl _
  | pure x ids => rw [hek] at hk; rw [hk.2.2.1]; exact Nat.le_refl _
  | act y R => rw [hek] at hk; exact hk.2.2.1
theorem tch_iff {e : EnV} {b : Nat} (h : e.tch b) : b ∈ e.wr ∨ (e.n ≤ b ∧ b < e.n') := by
  unfold EnV.tch at h
  unfold EnV.wr
  split at h
  · exact h
  · exact h.elim
theorem free_of {l : List Oper} {k n0 : Nat} {acc : List FtV} {a e : EnV} {i : Nat} (ho : OkV l k n0 acc e.ft) (ha : acc[i]? = some a.ft) (h0 : n0 ≤ a.n) (h1 : a.n' ≤ e.n) (h9 : a.n ≤ a.n') (ht : ∀ id ∈ a.wr ++ a.reads, id < a.n) : ordB l i k = true ∨ FreeV a e := by
  cases hord : ordB l i k with
  | true => exact .inl rfl
  | false =>
    obtain ⟨o1, o2⟩ := ho
    have ids : ∀ id ∈ e.wr ++ e.reads, id ∉ a.wr ∧ ¬ (a.n ≤ id ∧ id < a.n') := fun id hid => by
      obtain ⟨_, q | q⟩ := o1 id hid
      · have h2 : id ∉ a.wr := allAcc_at q.2 i _ ha
        have h3 := q.1
        exact ⟨h2, by omega⟩
      · have := allAcc_at q i _ ha
        rw [Nat.zero_add] at this
        exact this.resolve_left (by rw [hord]; simp)
    refine .inr ⟨fun b ⟨t1, t2⟩ => ?_, fun id hid t1 => ?_, fun id hid t2 => ?_⟩
    · rcases tch_iff t2 with t2 | t2
      · obtain ⟨q1, q2⟩ := ids b (List.mem_append_left _ t2)
        exact (tch_iff t1).elim q1 q2
      · rcases tch_iff t1 with t1 | t1
        · have := ht b (List.mem_append_left _ t1)
          omega
        · omega
    · obtain ⟨q1, q2⟩ := ids id (List.mem_append_right _ hid)
      exact (tch_iff t1).elim q1 q2
    · have h4 := ht id (List.mem_append_right _ hid)
      rcases tch_iff t2 with t2 | t2
      · rcases o2 with o2 | o2
        · have o2 : e.wr = [] := o2
          rw [o2] at t2; cases t2
        · have := allAcc_at o2 i _ ha
          rw [Nat.zero_add] at this
          exact this.resolve_left (by rw [hord]; simp) id t2 hid
      · omega
theorem execV_chain {l0 : List Oper} {n0 : Nat} : ∀ (l : List Oper) (n : Nat) (s : St) (acc : List EnV) {Q : Nat → St → Prop}, (∀ a ∈ acc, n0 ≤ a.n ∧ a.n' ≤ n ∧ a.n ≤ a.n' ∧ ∀ id ∈ a.wr ++ a.reads, id < a.n) → n0 ≤ n → ExecV P r ns l0 n0 l n s (acc.map EnV.ft) Q → ∃ es nF sF, ChainV P r ns l0.toArray l es n s nF sF ∧ Q nF sF ∧ ∀ i k ei ek, i < k → acc.length ≤ k → (acc ++ es)[i]? = some ei → (acc ++ es)[k]? = some ek → ordB l0 i k = true ∨ FreeV ei ek
  | [], n, s, acc, Q, _, _, h => ⟨[], n, s, .nil n s, h, fun i k ei ek _ hk _ h2 => by rw [List.append_nil, List.getElem?_eq_none hk] at h2; cases h2⟩
  | o :: l, n, s, acc, Q, hacc, hn, ⟨e, h1, h2, h3, h4, h5⟩ => by
    subst h1
    subst h2
    have hle := h3.le
    obtain ⟨es, nF, sF, k1, k2, k3⟩ := execV_chain l e.n' e.s' (acc ++ [e]) (fun a ha => by
      rcases List.mem_append.1 ha with ha | ha
      · obtain ⟨q1, q2, q9, q3⟩ := hacc a ha
        exact ⟨q1, Nat.le_trans q2 hle, q9, q3⟩
      · rw [List.mem_singleton] at ha
        subst ha
        exact ⟨hn, Nat.le_refl _, hle, fun id hid => (h4.1 id hid).1⟩) (Nat.le_trans hn hle) (by rw [List.map_append]; exact h5)
    refine ⟨e :: es, nF, sF, .cons h3 k1, k2, fun i k ei ek hik hk hi hke => ?_⟩
    have e1 : acc ++ e :: es = (acc ++ [e]) ++ es := by simp
    rcases Nat.lt_or_ge acc.length k with h | h
    · rw [e1] at hi hke
      exact k3 i k ei ek hik (by simp; omega) hi hke
    · obtain rfl : k = acc.length := by omega
      rw [List.getElem?_append_right (Nat.le_refl _)] at hke
      simp at hke
      subst hke
      rw [List.getElem?_append_left hik] at hi
      obtain ⟨q1, q2, q9, q3⟩ := hacc ei (List.mem_of_getElem? hi)
      rw [List.length_map] at h4
      exact free_of h4 (by rw [List.getElem?_map, hi]; rfl) q1 q2 q9 q3
theorem AWi.drawsV (hm : P.follows .mixedOrders = true) {id : Nat} {l : List Oper} (hst : stOk l.toArray = true) {n : Nat} {s : St} {Q : Post} (h : ExecV P r ns l n l n s [] (fun n' s' => Q .normal n' s')) : AWi P r ns (.region id l.toArray true) n s Q := by
  obtain ⟨es, nF, sF, k1, k2, k3⟩ := execV_chain l n s [] (fun _ h => by cases h) (Nat.le_refl _) h
  have hD := draw3_V k1 hst fun i k ei ek hik hi hk => k3 i k ei ek hik (Nat.zero_le _) hi hk
  have hB : backB l.toArray = true := by unfold stOk at hst; rw [Bool.and_eq_true] at hst; exact hst.1
  have := AWi.drawsI3 (r := r) (id := id) hm hB hD (Q := Q) (by rw [(chainV_end k1).1, (chainV_end k1).2]; exact k2)
  rw [(chainV_zero k1).1, (chainV_zero k1).2] at this
  exact this
end Go.Proofs.Ytjjoiihgpkhndaa.Eng


noncomputable section
namespace Go.Proofs.Ytjjoiihgpkhndaa.Eng
open Go.RowKit
variable {P : Program} {T : Tab} {r : Option Nat} {ns : Nat}
def isPure : Op → Bool
  | .box .. | .alloc _ | .buildSlice .. | .makeSlice .. | .store .. => false
  | .call c => match c.callee with
    | .builtin .append => false
    | .builtin _ => true
    | _ => false
  | _ => true
theorem pure_run (hT : TabOk P T) {W0 : Fix} {R0 D : Nat → Prop} {s : St} {E : Env} {a : Act} {w : World} (h : Sim W0 R0 ns D s E a w) {o : Oper} {nid : Nat} {x : SV} (hp : isPure o.op = true) (hs : aop T s.mem nid (opd ns s) o.op = some { res := x }) : ∃ v, (execOp a.eval o).run P w = .ok (.value v) w ∧ Rep E w x v := by
  have hev : ∀ x v, opd ns s x = some v → Rep E w v (a.eval x) := fun x v hx => h.opd hx
  have fin : ∀ {r : SV}, aopR T s.mem (opd ns s) o.op = some r → ({ res := r } : Out) = { res := x } → ∃ v, (execOp a.eval o).run P w = .ok (.value v) w ∧ Rep E w x v := fun {r} hr e => by
    cases e
    exact aopR_run hT hev h.mem hr
  unfold aop at hs
  split at hs
  · rename_i ho; rw [ho] at hp; cases hp
  · rename_i ho; rw [ho] at hp; cases hp
  · rename_i t ps ho
    split at hs
    · rename_i i l hi hl
      split at hs
      · rename_i hkn
        rw [Option.map_eq_some_iff] at hs
        obtain ⟨c, hc, e⟩ := hs
        cases e
        obtain ⟨p1, p2⟩ := evParts_rep (w := w) (E := E) hev hl
        obtain ⟨z, hz, hr⟩ := build_run (w := w) (E := E) hT hi hkn (ps := ps.map fun (i, x) => (i, a.eval x)) (by simpa using p1) (fun j p q hp hq => p2 j p q hp (by simpa using hq)) hc
        exact ⟨z, by simp only [execOp, ho, Sem.run_bind, hz, Result.andThen_ok]; rfl, hr⟩
      · cases hs
    · cases hs
  · rename_i ho; rw [ho] at hp; cases hp
  · rename_i ho; rw [ho] at hp; cases hp
  · rename_i ho; rw [ho] at hp; cases hp
  · rename_i c ho
    split at hs
    · rename_i hc _ _
      rw [ho] at hp
      simp only [isPure, hc] at hp
      cases hp
    · rw [Option.map_eq_some_iff] at hs
      obtain ⟨r, hr, e⟩ := hs
      exact fin (by rw [ho]; exact hr) e
  · rw [Option.map_eq_some_iff] at hs
    obtain ⟨r, hr, e⟩ := hs
    exact fin hr e
section
variable {l0 : List Oper} {n0 : Nat} {o : Oper} {l : List Oper} {n : Nat} {s : St} {acc : List FtV} {Q : Nat → St → Prop}
theorem ExecV.pure (hT : TabOk P T) {x : SV} (hg : guardS l0.toArray ns s o = some true) (hp : isPure o.op = true) (hw : waits o.op = false) (hx : aop T s.mem n (opd ns s) o.op = some { res := x }) (hok : OkV l0 acc.length n0 acc ⟨n, n, [], idsRead s o.op⟩)
    (h : ExecV P r ns l0 n0 l n ⟨setSlot s.slots o.dst x, s.mem⟩ (acc ++ [⟨n, n, [], idsRead s o.op⟩]) Q) : ExecV P r ns l0 n0 (o :: l) n s acc Q :=
  ⟨⟨.pure x (idsRead s o.op), n, s, n, ⟨setSlot s.slots o.dst x, s.mem⟩, []⟩, rfl, rfl, ⟨⟨hg, fun s' D N _ hsl hme => by
    intro W0 R0 B E a w hin hs hd K1 Q' hK1
    have hst := step_local (P := P) ((step_plain (P := P) hw).2 hx) hsl hme (fun _ h => by cases h)
    obtain ⟨v, hr, hv⟩ := pure_run hT hs hp ((step_plain hw).1 hst)
    refine oper_in (noDefer_spec (aop_noDefer hx) List.mem_cons_self) ?_
    unfold Oper.wp
    rw [hr]
    exact hK1 E _ w (hs.put hd hv), rfl, rfl⟩⟩, hok, h⟩
open Classical in
theorem ExecV.new (hT : TabOk P T) {y : SV} {b : Blk} (hg : guardS l0.toArray ns s o = some true) (hw : waits o.op = false) (hx : aop T s.mem n (opd ns s) o.op = some { res := y, nw := some b }) (hok : OkV l0 acc.length n0 acc ⟨n, n + 1, [], idsRead s o.op⟩)
    (h : ExecV P r ns l0 n0 l (n + 1) ⟨setSlot s.slots o.dst y, setMem s.mem n (some b)⟩ (acc ++ [⟨n, n + 1, [], idsRead s o.op⟩]) Q) : ExecV P r ns l0 n0 (o :: l) n s acc Q :=
  ⟨⟨.act y [], n, s, n + 1, ⟨setSlot s.slots o.dst y, setMem s.mem n (some b)⟩, idsRead s o.op⟩, rfl, rfl, ⟨⟨hg, fun D s' hD hsl _ hrd => by
    intro W0 R0 B E a w hin hs hd K1 Q' hK1
    have hst := step_local (P := P) ((step_plain (P := P) hw).2 hx) hsl hrd (fun _ h => by cases h)
    have hDn : ¬ D n := fun h => hD n h ⟨Nat.le_refl _, Nat.lt_succ_self _⟩
    obtain ⟨E', w', h2, h3⟩ := aop_run hT hs hDn ((step_plain hw).1 hst)
    have hm : (fun i => if i ∈ ([] : List Nat) ∨ New n (n + 1) i then setMem s.mem n (some b) i else s'.mem i) = setMem s'.mem n (some b) := by
      funext i
      by_cases e : i = n
      · subst e; rw [if_pos (.inr ⟨Nat.le_refl _, Nat.lt_succ_self _⟩)]; simp [setMem]
      · rw [if_neg (fun h => h.elim (by simp) fun h => e (by have := h.1; have := h.2; omega))]; simp [setMem, e]
    have h4 : Sim W0 R0 ns (fun i => D i ∨ New n (n + 1) i) ⟨s'.slots, setMem s'.mem n (some b)⟩ E' a w' := h2.weak fun i hi => hi.elim (fun e => .inr (by subst e; exact ⟨Nat.le_refl _, Nat.lt_succ_self _⟩)) .inl
    refine oper_in (noDefer_spec (aop_noDefer hx) List.mem_cons_self) ?_
    unfold Oper.wp
    rcases h3 with ⟨v, hr, hv⟩ | ⟨hr, hu⟩
    · rw [hr]
      refine hK1 E' _ w' ?_
      rw [hm]
      exact h4.put hd hv
    · rw [hr]
      refine hK1 E' _ w' ?_
      rw [hm]
      have hu : y = .und := hu
      subst hu
      exact h4.put hd (Rep.und (E := E') (w := w') undef), Nat.le_succ _, rfl, fun i hi => by
    have e : ¬ i = n := fun e => hi (.inr (by subst e; exact ⟨Nat.le_refl _, Nat.lt_succ_self _⟩))
    simp [setMem, e]⟩⟩, hok, h⟩
open Classical in
theorem ExecV.store (hT : TabOk P T) {t : TypeId} {x y : Operand} {id : Nat} {b : Option Blk} (ho : o.op = .store t x y) (hg : guardS l0.toArray ns s o = some true) (hx : aop T s.mem n (opd ns s) o.op = some { res := .und, wr := some (id, b) }) (hok : OkV l0 acc.length n0 acc ⟨n, n, [id], idsRead s o.op⟩)
    (h : ExecV P r ns l0 n0 l n ⟨setSlot s.slots o.dst .und, setMem s.mem id b⟩ (acc ++ [⟨n, n, [id], idsRead s o.op⟩]) Q) : ExecV P r ns l0 n0 (o :: l) n s acc Q :=
  ⟨⟨.act .und [id], n, s, n, ⟨setSlot s.slots o.dst .und, setMem s.mem id b⟩, idsRead s o.op⟩, rfl, rfl, ⟨⟨hg, fun D s' hD hsl _ hrd => by
    intro W0 R0 B E a w hin hs hd K1 Q' hK1
    have hw : waits o.op = false := by rw [ho]; rfl
    have hst := step_local (P := P) ((step_plain (P := P) hw).2 hx) hsl hrd (fun _ h => by cases h)
    have hx' := (step_plain (P := P) hw).1 hst
    rw [ho] at hx'
    simp only [aop] at hx'
    split at hx'
    · rename_i i id' rr j v hi h1 h2
      have hr1 := hs.opd h1
      have hD1 : D id' := by
        obtain ⟨u, hu⟩ : ∃ u, a.eval x = u := ⟨_, rfl⟩
        rw [hu] at hr1
        cases hr1 with
        | ptr _ _ _ hd => exact hs.dom _ hd
      obtain ⟨E', w', q2, q3⟩ := store_run (nid := id') hT hs ho hi hr1 (hs.opd h2) hx'
      have hm : (fun i => if i ∈ [id] ∨ New n n i then setMem s.mem id b i else s'.mem i) = setMem s'.mem id b := by
        funext i
        by_cases e : i = id
        · subst e; rw [if_pos (.inl List.mem_cons_self)]; simp [setMem]
        · rw [if_neg (fun h => h.elim (fun h => e (List.mem_singleton.1 h)) fun h => by have := h.1; have := h.2; omega)]; simp [setMem, e]
      have q4 : Sim W0 R0 ns (fun i => D i ∨ New n n i) ⟨s'.slots, setMem s'.mem id b⟩ E' a w' := q2.weak fun i hi => hi.elim (fun e => .inl (e ▸ hD1)) .inl
      refine oper_in (noDefer_spec (aop_noDefer hx) List.mem_cons_self) ?_
      unfold Oper.wp
      rcases q3 with ⟨v, hr, hv⟩ | ⟨hr, hu⟩
      · rw [hr]
        refine hK1 E' _ w' ?_
        rw [hm]
        exact q4.put hd hv
      · rw [hr]
        refine hK1 E' _ w' ?_
        rw [hm]
        exact q4.put hd (Rep.und (E := E') (w := w') undef)
    · exact (by cases hx'), Nat.le_refl _, rfl, fun i hi => by
    have e : ¬ i = id := fun e => hi (.inl (by subst e; exact List.mem_cons_self))
    simp [setMem, e]⟩⟩, hok, h⟩
theorem ExecV.ro {f : FuncId} {svs : List SV} {d : Dat} {x : SV} (rds : List Nat) (hc : RCall P f svs d (only s.mem rds)) (hxd : toD3 x = some d) (hg : guardS l0.toArray ns s o = some true) (h1 : calleeS ns s o.op = some (f, svs)) (hok : OkV l0 acc.length n0 acc ⟨n, n, [], rds⟩)
    (h : ExecV P r ns l0 n0 l n ⟨setSlot s.slots o.dst x, s.mem⟩ (acc ++ [⟨n, n, [], rds⟩]) Q) : ExecV P r ns l0 n0 (o :: l) n s acc Q :=
  ⟨⟨.pure x rds, n, s, n, ⟨setSlot s.slots o.dst x, s.mem⟩, []⟩, rfl, rfl, ⟨⟨hg, fun s' D N hD hsl hme => stepD_ro hc hD (by
    rw [← h1]
    exact calleeS_congr fun x hx => opd_congr fun t ht => hsl t (mem_slotsOf (ht ▸ hx))) (fun i b hb => by
    unfold only at hb
    split at hb
    · rename_i hm
      exact (hme i hm).trans hb
    · cases hb) hxd, rfl, rfl⟩⟩, hok, h⟩
open Classical in
theorem ExecV.calln {f : FuncId} {svs : List SV} {y : SV} {mq m' : Mem} {n' : Nat} (rds : List Nat) (hc : NCall P f svs (only s.mem rds) n n' y mq) (hn : n ≤ n') (hr : ∀ i ∈ rds, (s.mem i).isSome = true ∧ mq i = s.mem i) (hm : ∀ i, (New n n' i → m' i = mq i) ∧ (¬ New n n' i → m' i = s.mem i)) (hg : guardS l0.toArray ns s o = some true) (h1 : calleeS ns s o.op = some (f, svs)) (hok : OkV l0 acc.length n0 acc ⟨n, n', [], rds⟩)
    (h : ExecV P r ns l0 n0 l n' ⟨setSlot s.slots o.dst y, m'⟩ (acc ++ [⟨n, n', [], rds⟩]) Q) : ExecV P r ns l0 n0 (o :: l) n s acc Q :=
  ⟨⟨.act y [], n, s, n', ⟨setSlot s.slots o.dst y, m'⟩, rds⟩, rfl, rfl, ⟨⟨hg, fun D s' hD hsl _ hrd => by
    have hs := stepD_call (r := r) (ns := ns) hc (D := D) (s' := s') (o := o) hD (by
      rw [← h1]
      exact calleeS_congr fun x hx => opd_congr fun t ht => hsl t (mem_slotsOf (ht ▸ hx))) (fun i b hb => by
      unfold only at hb
      split at hb
      · rename_i hm
        exact (hrd i hm).trans hb
      · cases hb)
    have e : behind s'.mem (only s.mem rds) mq n n' = fun i => if i ∈ ([] : List Nat) ∨ New n n' i then m' i else s'.mem i := by
      funext i
      unfold behind
      by_cases hw : New n n' i
      · rw [if_pos (.inr hw), if_pos (.inr hw), (hm i).1 hw]
      · rw [if_neg (show ¬ (i ∈ ([] : List Nat) ∨ New n n' i) from fun h => h.elim (by simp) hw)]
        by_cases hi : i ∈ rds
        · rw [if_pos (.inl (by simp only [only, if_pos hi]; exact (hr i hi).1)), (hr i hi).2]
          exact (hrd i hi).symm
        · rw [if_neg (fun h => h.elim (by simp [only, hi]) hw)]
    rw [e] at hs
    exact hs, hn, rfl, fun i hi => (hm i).2 fun h => hi (.inr h)⟩⟩, hok, h⟩
theorem ExecV.off (hg : guardS l0.toArray ns s o = some false) (h : ExecV P r ns l0 n0 l n ⟨setSlot s.slots o.dst (.tup []), s.mem⟩ (acc ++ [⟨n, n, [], []⟩]) Q) : ExecV P r ns l0 n0 (o :: l) n s acc Q :=
  ⟨⟨.off, n, s, n, ⟨setSlot s.slots o.dst (.tup []), s.mem⟩, []⟩, rfl, rfl, ⟨⟨hg, rfl, rfl⟩⟩, ⟨fun _ h => (by cases h), .inl rfl⟩, h⟩
theorem ExecV.done (h : Q n s) : ExecV P r ns l0 n0 [] n s acc Q := h
end
end Go.Proofs.Ytjjoiihgpkhndaa.Eng


noncomputable section
namespace Go.Proofs.Ytjjoiihgpkhndaa.Eng
open Go.RowKit
variable {P : Program} {T : Tab} {r : Option Nat} {ns : Nat}
theorem RCall.ofA {f : FuncId} {ds : List Dat} {d : Dat} (h : ACall P f ds d) {svs : List SV} (hs : mapO toD3 svs = some ds) (m : Nat → Option Blk) : RCall P f svs d m :=
  ⟨h.callable, fun W0 R0 D N E w vs hD M h1 h2 => by
    obtain ⟨hlen, hget⟩ := mapO_get hs
    refine (h.calls E.ro w vs M.rlt (by rw [h1, hlen]) fun i d v hd hv => ?_).mono ?_
    · have hi : i < svs.length := by rw [← hlen]; exact (List.getElem?_eq_some_iff.1 hd).1
      obtain ⟨y, q1, q2⟩ := hget i _ (List.getElem?_eq_getElem hi)
      rw [hd] at q1
      cases q1
      cases (toD3_rep q2).1 (h2 i _ v (List.getElem?_eq_getElem hi) hv) with | d _ _ h => exact h
    · rintro e w' ⟨v, rfl, hb, hr⟩
      let E2 : Env := { E with ro := fun b => E.ro b ∨ (w.heap.size ≤ b ∧ b < w'.heap.size) }
      have hE : E.le E2 := ⟨fun _ h => .inl h, fun _ h => h, fun _ _ => rfl⟩
      have hw : ∀ b, E.ro b → w'.heap[b]? = w.heap[b]? := fun b hb' => hb.block b (M.rlt b hb')
      refine ⟨v, E2, rfl, ⟨M.below.trans (kept_of hb fun b hu => Nat.lt_of_lt_of_le (W0.lt b hu) M.below.size), fun b hb => .inl (M.ro0 b hb), fun b hb' => ?_, fun b hb' => ?_, M.dom, M.live, fun i b hi => (M.mem i b hi).keep hE hw (hb.block _ (M.mem i b hi).lt), M.base, fun i b hi => ?_, M.inj⟩, hE, hw, .d _ _ hr⟩
      · rcases hb' with h | h
        · exact M.ro1 b h
        · exact .inr fun hu => by have := W0.lt b hu; have := M.below.size; omega
      · rcases hb' with h | h
        · exact Nat.lt_of_lt_of_le (M.rlt b h) (kept_of (U := fun _ => False) hb fun _ h => h.elim).size
        · exact h.2
      · refine (M.frz i b hi).trans ⟨.inl, fun h => h.elim id fun h => ?_⟩
        have h5 : (E.home i).blk < w.heap.size := (M.mem i b hi).lt
        have h6 : w.heap.size ≤ (E.home i).blk := h.1
        omega⟩
def kindV (op : Op) (out : Out) (Kp : SV → Prop) (Kn : SV → Blk → Prop) (Ks : Nat → Option Blk → Prop) : Prop :=
  match isPure op, out.frz, out.wr, out.nw, out.rds with
  | true, [], none, none, [] => Kp out.res
  | false, [], none, some b, [] => Kn out.res b
  | false, [], some (id, b), none, [] => (out.res = .und ∧ ∃ t x y, op = .store t x y) ∧ Ks id b
  | _, _, _, _, _ => False
section
variable {l0 : List Oper} {n0 : Nat} {o : Oper} {l : List Oper} {n : Nat} {s : St} {acc : List FtV} {Q : Nat → St → Prop}
def ExecVW (P : Program) (r : Option Nat) (ns : Nat) (l0 : List Oper) (n0 : Nat) (l : List Oper) (n : Nat) (s : St) (acc : List FtV) (Q : Nat → St → Prop) : Prop := ExecV P r ns l0 n0 l n s acc Q
theorem ExecV.auto (hT : TabOk P T) (h : match guardS l0.toArray ns s o, waits o.op with
    | some true, false => match aop T s.mem n (opd ns s) o.op with
      | some out => kindV o.op out
          (fun x => OkV l0 acc.length n0 acc ⟨n, n, [], idsRead s o.op⟩ ∧ ExecV P r ns l0 n0 l n ⟨setSlot s.slots o.dst x, s.mem⟩ (acc ++ [⟨n, n, [], idsRead s o.op⟩]) Q)
          (fun y b => OkV l0 acc.length n0 acc ⟨n, n + 1, [], idsRead s o.op⟩ ∧ ExecV P r ns l0 n0 l (n + 1) ⟨setSlot s.slots o.dst y, setMem s.mem n (some b)⟩ (acc ++ [⟨n, n + 1, [], idsRead s o.op⟩]) Q)
          (fun id b => OkV l0 acc.length n0 acc ⟨n, n, [id], idsRead s o.op⟩ ∧ ExecV P r ns l0 n0 l n ⟨setSlot s.slots o.dst .und, setMem s.mem id b⟩ (acc ++ [⟨n, n, [id], idsRead s o.op⟩]) Q)
      | none => False
    | some false, _ => ExecV P r ns l0 n0 l n ⟨setSlot s.slots o.dst (.tup []), s.mem⟩ (acc ++ [⟨n, n, [], []⟩]) Q
    | _, _ => ExecVW P r ns l0 n0 (o :: l) n s acc Q) : ExecV P r ns l0 n0 (o :: l) n s acc Q := by
  split at h
  · rename_i hg hw
    split at h
    · rename_i out hx
      obtain ⟨res, frz, wr, nw, rds⟩ := out
      unfold kindV at h
      split at h
      · rename_i hp h1 h2 h3 h4
        simp only at h1 h2 h3 h4
        subst h1; subst h2; subst h3; subst h4
        exact ExecV.pure hT hg hp hw hx h.1 h.2
      · rename_i b hp h1 h2 h3 h4
        simp only at h1 h2 h3 h4
        subst h1; subst h2; subst h3; subst h4
        exact ExecV.new hT hg hw hx h.1 h.2
      · rename_i id b hp h1 h2 h3 h4
        simp only at h1 h2 h3 h4
        subst h1; subst h2; subst h3; subst h4
        obtain ⟨⟨hu, t, x, y, ho⟩, h5, h6⟩ := h
        have hu : res = .und := hu
        subst hu
        exact ExecV.store hT ho hg hx h5 h6
      · exact h.elim
    · exact h.elim
  · rename_i hg; exact ExecV.off hg h
  · exact h
@[simp] theorem OkV_nil {k n' : Nat} : OkV l0 k n0 acc ⟨n, n', [], []⟩ = True := by
  simp only [eq_iff_iff, iff_true]
  exact ⟨fun _ h => (by cases h), .inl rfl⟩
theorem OkV_old {k n' : Nat} {rd : List Nat} (h1 : ∀ id ∈ rd, id < n0) (hn : n0 ≤ n) (h2 : AllAcc (fun _ a => a.wr = []) 0 acc) : OkV l0 k n0 acc ⟨n, n', [], rd⟩ := by
  refine ⟨fun id hid => ?_, .inl rfl⟩
  have h3 := h1 id (by simpa using hid)
  refine ⟨Nat.lt_of_lt_of_le h3 hn, .inl ⟨h3, ?_⟩⟩
  have gen : ∀ (l : List FtV) (i : Nat), AllAcc (fun _ a => a.wr = []) i l → AllAcc (fun _ a => id ∉ a.wr) i l := by
    intro l
    induction l with
    | nil => intro i _; trivial
    | cons a l ih => intro i h; exact ⟨by have h1 : a.wr = [] := h.1; show id ∉ a.wr; rw [h1]; simp, ih _ h.2⟩
  exact gen acc 0 h2
theorem allAcc_of {f g : Nat → FtV → Prop} : ∀ {acc : List FtV} {i : Nat}, AllAcc f i acc → (∀ j a, acc[j]? = some a → f (i + j) a → g (i + j) a) → AllAcc g i acc
  | [], _, _, _ => trivial
  | a :: acc, i, h, hg => ⟨hg 0 a rfl h.1, allAcc_of h.2 fun j b hb hf => by
    have := hg (j + 1) b (by simpa using hb)
    rw [show i + 1 + j = i + (j + 1) by omega] at hf ⊢
    exact this hf⟩
theorem OkV_mix {k n' : Nat} {rd : List Nat} (h1 : ∀ id ∈ rd, id < n) (h2 : AllAcc (fun _ a => a.wr = []) 0 acc) (h3 : AllAcc (fun i a => a.n = a.n' ∨ ordB l0 i k = true ∨ ∀ id ∈ rd, id < n0 ∨ ¬ (a.n ≤ id ∧ id < a.n')) 0 acc) : OkV l0 k n0 acc ⟨n, n', [], rd⟩ := by
  refine ⟨fun id hid => ?_, .inl rfl⟩
  have hid : id ∈ rd := by simpa using hid
  refine ⟨h1 id hid, ?_⟩
  by_cases ho : id < n0
  · exact .inl ⟨ho, allAcc_of h2 fun _ a _ h => by have h1 : a.wr = [] := h; show id ∉ a.wr; rw [h1]; simp⟩
  · refine .inr (allAcc_of h3 fun j a ha h => ?_)
    have hw : a.wr = [] := by have := allAcc_at h2 j a ha; exact this
    rcases h with h | h | h
    · exact .inr ⟨by rw [hw]; simp, by omega⟩
    · exact .inl h
    · exact .inr ⟨by rw [hw]; simp, (h id hid).resolve_left ho⟩
theorem OkV_last {k n' : Nat} {wr rd : List Nat} (h1 : ∀ id ∈ wr ++ rd, id < n) (h2 : AllAcc (fun i _ => ordB l0 i k = true) 0 acc) : OkV l0 k n0 acc ⟨n, n', wr, rd⟩ :=
  ⟨fun id hid => ⟨h1 id hid, .inr (allAcc_of h2 fun _ _ _ h => .inl h)⟩, .inr (allAcc_of h2 fun _ _ _ h => .inl h)⟩
def putN (m : Mem) (n n' : Nat) (q : Mem) : Mem := fun i => if n ≤ i ∧ i < n' then q i else m i
@[simp] theorem putN_at {m q : Mem} {n n' i : Nat} : putN m n n' q i = if n ≤ i ∧ i < n' then q i else m i := rfl
open Classical in
theorem ExecV.callP {f : FuncId} {svs : List SV} {y : SV} {mq : Mem} {n' : Nat} (rds : List Nat) (hc : NCall P f svs (only s.mem rds) n n' y mq) (hn : n ≤ n') (hr : ∀ i ∈ rds, (s.mem i).isSome = true ∧ mq i = s.mem i) (hg : guardS l0.toArray ns s o = some true) (h1 : calleeS ns s o.op = some (f, svs)) (hok : OkV l0 acc.length n0 acc ⟨n, n', [], rds⟩)
    (h : ExecV P r ns l0 n0 l n' ⟨setSlot s.slots o.dst y, putN s.mem n n' mq⟩ (acc ++ [⟨n, n', [], rds⟩]) Q) : ExecV P r ns l0 n0 (o :: l) n s acc Q :=
  ExecV.calln rds hc hn hr (fun i => ⟨fun hi => if_pos ⟨hi.1, hi.2⟩, fun hi => if_neg fun h => hi ⟨h.1, h.2⟩⟩) hg h1 hok h
end
theorem RCall.cwp {f : FuncId} {svs : List SV} {d : Dat} {m0 m : Mem} (h : RCall P f svs d m0) (hm : ∀ i b, m0 i = some b → m i = some b) {x : SV} (hx : toD3 x = some d) (n : Nat) : CWp P f svs n m fun y n' m' => y = x ∧ n' = n ∧ m' = m :=
  ⟨h.callable, fun W0 R0 E w vs M k1 k2 => by
    refine ((h.more hm).calls W0 R0 (· < n) n E w vs (fun _ h => h) M k1 k2).mono ?_
    rintro e w' ⟨v, E', rfl, M', hE, hw, hv⟩
    exact ⟨v, E', n, m, x, rfl, M', hE, hw, (toD3_rep hx).2 hv, rfl, rfl, rfl⟩⟩
theorem YCall.ofA {f : FuncId} {ds : List Dat} {d : Dat} (h : ACall P f ds d) {svs : List SV} (hs : mapO toD3 svs = some ds) (n : Nat) (m : Mem) : YCall P (.fn f [] []) svs n m fun b n' m' => n ≤ n' ∧ (∀ j, j < n → m' j = m j) ∧ b = .d d := by
  refine YCall.fn ?_
  have h1 := (RCall.ofA h hs (fun _ => none)).cwp (m := m) (fun i b hb => by cases hb) (x := .d d) rfl n
  refine CWp.mono (by simpa using h1) ?_
  rintro y n' m' ⟨rfl, rfl, rfl⟩
  exact ⟨Nat.le_refl _, fun _ _ => rfl, rfl⟩
theorem NCall.of {f : FuncId} {svs : List SV} {n : Nat} {m0 : Mem} {n1 : Nat} {y0 : SV} {mq : Mem} (h : CWp P f svs n m0 fun y n' m' => y0 = y ∧ n1 = n' ∧ mq = m') (hlt : ∀ i b, m0 i = some b → i < n) (hm0 : ∀ i b, m0 i = some b → OfB (fun i => (m0 i).isSome = true) b) (hargs : ∀ x ∈ svs, Of (fun i => (m0 i).isSome = true) x)
    (hq : ∀ i b, mq i = some b → ((m0 i).isSome = true ∨ New n n1 i) ∧ OfB (fun i => (m0 i).isSome = true ∨ New n n1 i) b) (hy : Of (fun i => (m0 i).isSome = true ∨ New n n1 i) y0) : NCall P f svs m0 n n1 y0 mq := ncall_ofM h hlt hm0 hargs hq hy
end Go.Proofs.Ytjjoiihgpkhndaa.Eng


noncomputable section
namespace Go.Proofs.Ytjjoiihgpkhndaa.Eng
open Go.RowKit
theorem of_pair {S : Nat → Prop} (l : List CSt) (h : List (Int × Int)) : OfB S (pairM l h) := .box _ _ _ fun c hc => by
  rcases List.mem_cons.1 hc with rfl | hc
  · exact .d _
  · obtain ⟨d, _, rfl⟩ := List.mem_map.1 hc
    exact .d _
theorem of_spotV {S : Nat → Prop} (s : Spot) : Of S (spotV s) := .agg _ fun c hc => by
  simp at hc
  rcases hc with rfl | rfl | rfl | rfl <;> exact .d _
def slopeM (m : Mem) (k n : Nat) (s : Spot) (o : List Spot) : Mem := setMem (setMem (setMem m n (some (.box 76 [.ptr k 0 0] false))) (n + 1) (some (.box 82 (spotC s) false))) (n + 1 + 1) (some (.box 89 [.d (.list (spotRows o))] false))
def slopeF (n : Nat) : SV := .fn 98 [] [.ptr (n + 1 + 1) 0 0, .ptr n 0 0, .ptr (n + 1) 0 0]
set_option maxRecDepth 100000 in
set_option maxHeartbeats 4000000 in
theorem slopes_e (k : Nat) (s : Spot) (o : List Spot) (n : Nat) (m : Mem) : CWp Try.prog 86 [.ptr k 0 0, spotV s, .d (.list (spotRows o))] n m fun y n' m' => slopeF n = y ∧ n + 1 + 1 + 1 + 1 + 1 + 1 = n' ∧ slopeM m k n s o = m' := by
  unfold spotV
  refine cwpK tabOk Try.func86 rfl rfl (show 3 ≤ _ by decide) rfl fun _ => ?_; simp only [Try.ntmps86]
  repeat (first | (with_reducible first | refine AWi.seqK fun _ => ?_ | refine AWi.blockK fun _ => ?_ | refine KI.go ?_) | ((first | refine AWi.region tabOk ?_ | refine AWi.condK fun _ _ => ?_ | refine AWi.draws tabOk rfl (by kernel_rfl) (by kernel_rfl) ?_); simp [-getElem?_pos, z0, z1, z2, z0]) | ((first | refine AWi.ret ?_ | refine AWi.skip ?_ | refine AWi.exit ?_); try simp only [thenP]) | (with_reducible refine BB.go ?_; simp only [blockP, thenP, reduceIte]) | (with_reducible refine And.intro (okLog_c (by simp [footOf, guardSlot, slotsOf, idsRead, looks, idsOf, idsOf1, idsWritten, colF]; kernel_rfl)) ?_))
  exact RI.ret rfl ⟨rfl, rfl, rfl⟩
theorem slopes_n {k : Nat} {m : Mem} {l : List CSt} {h : List (Int × Int)} (hk : m k = some (pairM l h)) (s : Spot) (o : List Spot) (n : Nat) (hn : k < n) : NCall Try.prog 86 [.ptr k 0 0, spotV s, .d (.list (spotRows o))] (only m [k]) n (n + 1 + 1 + 1 + 1 + 1 + 1) (slopeF n) (slopeM (only m [k]) k n s o) := by
  have hs : (only m [k] k).isSome = true := by simp [only, hk]
  have h0 : ∀ i b, only m [k] i = some b → i = k ∧ b = pairM l h := fun i b hb => by
    unfold only at hb
    split at hb
    · rename_i hm
      have hm := List.mem_singleton.1 hm
      subst hm
      rw [hk] at hb
      cases hb
      exact ⟨rfl, rfl⟩
    · cases hb
  refine NCall.of (slopes_e k s o n _) (fun i b hb => by obtain ⟨rfl, _⟩ := h0 i b hb; exact hn) (fun i b hb => by obtain ⟨_, rfl⟩ := h0 i b hb; exact of_pair _ _) (fun x hx => ?_) (fun i b hb => ?_) ?_
  · simp at hx
    rcases hx with rfl | rfl | rfl
    · exact .ptr _ _ _ hs
    · exact of_spotV s
    · exact .d _
  · unfold slopeM setMem at hb
    by_cases e3 : i = n + 1 + 1
    · rw [if_pos e3] at hb; cases hb
      exact ⟨.inr ⟨by omega, by omega⟩, .box _ _ _ fun c hc => by simp at hc; subst hc; exact .d _⟩
    · rw [if_neg e3] at hb
      by_cases e2 : i = n + 1
      · rw [if_pos e2] at hb; cases hb
        refine ⟨.inr ⟨by omega, by omega⟩, .box _ _ _ fun c hc => ?_⟩
        simp [spotC] at hc
        rcases hc with rfl | rfl | rfl | rfl <;> exact .d _
      · rw [if_neg e2] at hb
        by_cases e1 : i = n
        · rw [if_pos e1] at hb; cases hb
          exact ⟨.inr ⟨by omega, by omega⟩, .box _ _ _ fun c hc => by simp at hc; subst hc; exact .ptr _ _ _ (.inl hs)⟩
        · rw [if_neg e1] at hb
          obtain ⟨rfl, rfl⟩ := h0 i b hb
          exact ⟨.inl hs, of_pair _ _⟩
  · refine .fn _ _ _ (fun c hc => by cases hc) fun c hc => ?_
    simp at hc
    rcases hc with rfl | rfl | rfl <;> exact .ptr _ _ _ (.inr ⟨by omega, by omega⟩)
theorem slopeX_eq (v : List Int) (s : Spot) (o : List Spot) : slopeX v s o = (o.map (slope v s)).map oneQ := by simp [slopeX, oneQ, Function.comp]
theorem leastSlopes_r {k c : Nat} {m : Mem} {x : SV} {v : List Int} (hv : v.length ≤ 25) {s : Spot} (hs : SpotOk v s) {o : List Spot} (ho : ∀ q ∈ o, SpotOk v q ∧ q.at_ ≠ s.at_) (hl : o.length ≤ 25) (hkc : k < c)
    (h0 : m k = some (pairB x (wh v))) (h1 : m c = some (.box 76 [.ptr k 0 0] false)) (h2 : m (c + 1) = some (.box 82 (spotC s) false)) (h3 : m (c + 1 + 1) = some (.box 89 [.d (.list (spotRows o))] false))
    (F : FuncId) (less : Int × Int → Int × Int → Bool) (one : Int × Int) (hF : ∀ x ∈ o.map (slope v s), ∀ y, y = one ∨ y ∈ o.map (slope v s) → ACall Try.prog F [ratD x, ratD y] (bD (less x y))) :
    RCall Try.prog 84 [.d (ratD one), slopeF c, .fn F [] []] (ratD (leastR less one (o.map (slope v s)))) (only m [k, c, c + 1, c + 1 + 1]) :=
  RCall.of3 (n0 := c + 3) fun n hn => by
    have hit := slopes1_w k (c + 1 + 1) c (c + 1) x v hv s hs o ho hl
    rw [slopeX_eq] at hit
    refine (leastOf_w hit (us := []) (vs := [.ptr (c + 1 + 1) 0 0, .ptr c 0 0, .ptr (c + 1) 0 0]) (fun Y => rfl) (.fn F [] []) ⟨rfl, rfl⟩ less one n (only m [k, c, c + 1, c + 1 + 1]) ⟨⟨false, by simp [h3]⟩, ⟨false, by simp [h1]⟩, ⟨false, by simp [h2]⟩, by simp [h0]⟩ (fun m1 m2 hm ⟨⟨a, q1⟩, ⟨b, q2⟩, ⟨d, q3⟩, q4⟩ => ⟨⟨a, (hm _ (by omega)).trans q1⟩, ⟨b, (hm _ (by omega)).trans q2⟩, ⟨d, (hm _ (by omega)).trans q3⟩, (hm _ (by omega)).trans q4⟩) (fun x hx y hy n' m' _ => YCall.ofA (hF x hx y hy) (by rfl) n' m')).mono fun y n' m' => ?_
    rintro ⟨_, h5, rfl⟩
    exact ⟨ratV_data _, h5⟩
def before (L : List Spot) (s : Spot) : List Spot := L.take s.name.toNat
def behindS (L : List Spot) (s : Spot) : List Spot := L.drop (s.name.toNat + 1)
def tiltLo (v : List Int) (L : List Spot) (s : Spot) : Int × Int := leastR (fun a b => lessQ b a) (-10000, 1) ((before L s).map (slope v s))
def tiltHi (v : List Int) (L : List Spot) (s : Spot) : Int × Int := leastR lessQ (10000, 1) ((behindS L s).map (slope v s))
theorem mixedX : Try.prog.follows .mixedOrders = true := by decide +kernel
theorem mul_in {a b : Int} (ha : -1000000 ≤ a ∧ a ≤ 1000000) (hb : -1000000 ≤ b ∧ b ≤ 1000000) : IntKind.i64.wrap (a * b) = a * b := by
  have h : (a * b).natAbs ≤ 1000000 * 1000000 := by
    rw [Int.natAbs_mul]
    exact Nat.mul_le_mul (by omega) (by omega)
  exact wrap64_in (by omega)
theorem slope_in {v : List Int} {s q : Spot} (hs : SpotOk v s) (hq : SpotOk v q) : (-1000000 ≤ (slope v s q).1 ∧ (slope v s q).1 ≤ 1000000) ∧ (-1000000 ≤ (slope v s q).2 ∧ (slope v s q).2 ≤ 1000000) := by
  obtain ⟨a, a1, a2, a3⟩ := hs.high
  obtain ⟨b, b1, b2, b3⟩ := hq.high
  have c1 := hs.at_
  have c2 := hq.at_
  unfold slope red
  rw [a1, b1]
  simp only [Option.getD_some]
  exact ⟨tdiv_in (by omega), tdiv_in (by omega)⟩
@[simp] theorem spotRows_take (L : List Spot) (i : Nat) : List.take i (spotRows L) = spotRows (L.take i) := by simp [spotRows]
@[simp] theorem spotRows_drop (L : List Spot) (i : Nat) : List.drop i (spotRows L) = spotRows (L.drop i) := by simp [spotRows]
theorem tilt_in {v : List Int} {s : Spot} {o : List Spot} (hs : SpotOk v s) (ho : ∀ q ∈ o, SpotOk v q ∧ q.at_ ≠ s.at_) (less : Int × Int → Int × Int → Bool) (one : Int × Int) (h1 : (-1000000 ≤ one.1 ∧ one.1 ≤ 1000000) ∧ (-1000000 ≤ one.2 ∧ one.2 ≤ 1000000)) : (-1000000 ≤ (leastR less one (o.map (slope v s))).1 ∧ (leastR less one (o.map (slope v s))).1 ≤ 1000000) ∧ (-1000000 ≤ (leastR less one (o.map (slope v s))).2 ∧ (leastR less one (o.map (slope v s))).2 ≤ 1000000) := by
  rcases leastR_mem less one (o.map (slope v s)) with h | h
  · rw [h]; exact h1
  · obtain ⟨q, hq, e⟩ := List.mem_map.1 h
    rw [← e]
    exact slope_in hs (ho q hq).1
def spanV (a b : Int × Int) : SV := .agg [.d (iD a.1), .d (iD a.2), .d (iD b.1), .d (iD b.2)]
theorem more_of {v : List Int} {s : Spot} {o : List Spot} (hs : SpotOk v s) (ho : ∀ q ∈ o, SpotOk v q ∧ q.at_ ≠ s.at_) (one : Int × Int) (h1 : (-1000000 ≤ one.1 ∧ one.1 ≤ 1000000) ∧ (-1000000 ≤ one.2 ∧ one.2 ≤ 1000000)) : ∀ x ∈ o.map (slope v s), ∀ y, y = one ∨ y ∈ o.map (slope v s) → ACall Try.prog 87 [ratD x, ratD y] (bD (lessQ y x)) ∧ ACall Try.prog 74 [ratD x, ratD y] (bD (lessQ x y)) := fun x hx y hy => by
  have bx : (-1000000 ≤ x.1 ∧ x.1 ≤ 1000000) ∧ (-1000000 ≤ x.2 ∧ x.2 ≤ 1000000) := by
    obtain ⟨q, hq, rfl⟩ := List.mem_map.1 hx
    exact slope_in hs (ho q hq).1
  have by_ : (-1000000 ≤ y.1 ∧ y.1 ≤ 1000000) ∧ (-1000000 ≤ y.2 ∧ y.2 ≤ 1000000) := by
    rcases hy with rfl | hy
    · exact h1
    · obtain ⟨q, hq, rfl⟩ := List.mem_map.1 hy
      exact slope_in hs (ho q hq).1
  exact ⟨isMore_c x y (mul_in bx.1 by_.2) (mul_in by_.1 bx.2), isLess_c x y (mul_in bx.1 by_.2) (mul_in by_.1 bx.2)⟩
set_option maxRecDepth 100000 in
set_option maxHeartbeats 16000000 in
theorem tilts_w {l : List CSt} {k : Nat} {m : Mem} {v : List Int} (hk : m k = some (pairM l (wh v))) (hv : v.length ≤ 25) (hl : l.length ≤ 25) {s : Spot} (h0 : 0 ≤ s.name) (hs : (spots l)[s.name.toNat]? = some s) (ok : ∀ q ∈ spots l, SpotOk v q) (hd : ∀ q, q ∈ before (spots l) s ∨ q ∈ behindS (spots l) s → q.at_ ≠ s.at_) (n : Nat) (hn : k < n) :
    CWp Try.prog 54 [.ptr k 0 0, spotV s] n m fun y n' m' => n ≤ n' ∧ (∀ j, j < n → m' j = m j) ∧ y = if lessQ (tiltHi v (spots l) s) (tiltLo v (spots l) s) = true then .tup [spanV (0, 0) (0, 0), .d (iD 22)] else .tup [spanV (tiltLo v (spots l) s) (tiltHi v (spots l) s), .d (iD 0)] := by
  have hsm : s ∈ spots l := List.mem_of_getElem? hs
  have hlen : s.name.toNat < l.length := by have := (List.getElem?_eq_some_iff.1 hs).1; simpa using this
  have oks := ok s hsm
  have e0 : ¬ k = n := by omega
  have e1 : ¬ k = n + 1 := by omega
  have e2 : ¬ k = n + 1 + 1 := by omega
  have e3 : ¬ k = n + 1 + 1 + 1 := by omega
  have e4 : ¬ k = n + 1 + 1 + 1 + 1 := by omega
  have e5 : ¬ k = n + 1 + 1 + 1 + 1 + 1 := by omega
  have e6 : ¬ k = n + 1 + 1 + 1 + 1 + 1 + 1 := by omega
  have e7 : ¬ k = n + 1 + 1 + 1 + 1 + 1 + 1 + 1 := by omega
  have e8 : ¬ k = n + 1 + 1 + 1 + 1 + 1 + 1 + 1 + 1 := by omega
  have e9 : ¬ k = n + 1 + 1 + 1 + 1 + 1 + 1 + 1 + 1 + 1 := by omega
  have e10 : ¬ k = n + 1 + 1 + 1 + 1 + 1 + 1 + 1 + 1 + 1 + 1 := by omega
  have e11 : ¬ k = n + 1 + 1 + 1 + 1 + 1 + 1 + 1 + 1 + 1 + 1 + 1 := by omega
  have e12 : ¬ k = n + 1 + 1 + 1 + 1 + 1 + 1 + 1 + 1 + 1 + 1 + 1 + 1 := by omega
  have e13 : ¬ k = n + 1 + 1 + 1 + 1 + 1 + 1 + 1 + 1 + 1 + 1 + 1 + 1 + 1 := by omega
  have e14 : ¬ k = n + 1 + 1 + 1 + 1 + 1 + 1 + 1 + 1 + 1 + 1 + 1 + 1 + 1 + 1 := by omega
  have e15 : ¬ k = n + 1 + 1 + 1 + 1 + 1 + 1 + 1 + 1 + 1 + 1 + 1 + 1 + 1 + 1 + 1 := by omega
  have k3 : ¬ n + 1 + 1 + 1 ≤ k := by omega
  have k4 : n < n + 1 + 1 + 1 + 1 + 1 + 1 := by omega
  have k5 : n < n + 1 + 1 + 1 + 1 + 1 := by omega
  have k6 : n < n + 1 + 1 + 1 + 1 := by omega
  have w1 : IntKind.i64.wrap (s.name + 1) = s.name + 1 := wrap64_in (by omega)
  unfold spotV
  have hk' : m k = some (.box 93 (.d (.list (spotRows (spots l))) :: (rowQ (wh v)).map SV.d) false) := hk
  refine cwpK tabOk Try.func54 rfl rfl (show 2 ≤ _ by decide) rfl fun _ => ?_; simp only [Try.ntmps54]
  refine AWi.seqK fun _ => ?_
  refine AWi.region tabOk ?_
  simp [-getElem?_pos, z0, z1, z2]
  refine KI.go ?_
  refine AWi.seqK fun _ => ?_
  refine AWi.drawsV mixedX (by kernel_rfl) ?_
  refine ExecV.ro (x := .d (ratD (-10000, 1))) (svs := [.d (iD (-10000))]) [] (RCall.ofA (whole_c (-10000)) rfl _) rfl rfl (by simp [calleeS, evList]) (by simp) ?_
  have hle : s.name ≤ (l.length : Int) := by omega
  have hlt : s.name + 1 ≤ (l.length : Int) := by omega
  repeat (with_reducible refine ExecV.auto tabOk ?_; simp [-getElem?_pos, z0, z1, z2, kindV, isPure, e0, e1, hk', h0, hle, hlt, w1]; try (refine And.intro (OkV_old (by simp; try omega) (by omega) (by simp [AllAcc])) ?_))
  have hb1 : ∀ q ∈ before (spots l) s, SpotOk v q ∧ q.at_ ≠ s.at_ := fun q hq => ⟨ok q (List.mem_of_mem_take hq), hd q (.inl hq)⟩
  have hb2 : ∀ q ∈ behindS (spots l) s, SpotOk v q ∧ q.at_ ≠ s.at_ := fun q hq => ⟨ok q (List.mem_of_mem_drop hq), hd q (.inr hq)⟩
  refine ExecV.callP [k] (slopes_n (l := l) (h := wh v) (by simp [e0, e1, hk]) s (before (spots l) s) _ (by omega)) (by omega) (fun i hi => ?_) rfl (by simp [calleeS, evList, spotV, before]) (OkV_old (by simp; omega) (by omega) (by simp [AllAcc])) ?_
  · obtain rfl := List.mem_singleton.1 hi
    simp [slopeM, e0, e1, e2, e3, e4, e5, hk]
  refine ExecV.ro (x := .d (ratD (tiltLo v (spots l) s))) (svs := [.d (ratD (-10000, 1)), slopeF (n + 1 + 1 + 1), .fn 87 [] []]) [k, n + 1 + 1 + 1, n + 1 + 1 + 1 + 1, n + 1 + 1 + 1 + 1 + 1] (leastSlopes_r (x := .d (.list (spotRows (spots l)))) hv oks hb1 (by simp [before]; omega) (by omega) ?_ ?_ ?_ ?_ 87 (fun a b => lessQ b a) (-10000, 1) ?_) rfl rfl (by simp [calleeS, evList, slopeF]) ?_ ?_
  · simp [slopeM, e0, e1, e2, e3, e4, e5, hk, k3, pairM]
  · simp [slopeM, k4]
  · simp [slopeM, k5]
  · simp [slopeM, k6]
  · exact fun x hx y hy => (more_of oks hb1 _ (by decide) x hx y hy).1
  · refine OkV_mix (by simp; omega) (by simp [AllAcc]) ?_
    (repeat' (first | exact trivial | refine And.intro (Or.inl rfl) ?_ | refine And.intro (Or.inr (Or.inl (by kernel_rfl))) ?_ | refine And.intro (Or.inr (Or.inr (by simp; omega))) ?_))
  refine ExecV.ro (x := .d (ratD (10000, 1))) (svs := [.d (iD 10000)]) [] (RCall.ofA (whole_c 10000) rfl _) rfl rfl (by simp [calleeS, evList]) (by simp) ?_
  simp only [List.append_assoc, List.cons_append, List.nil_append]
  have k7 : ¬ n + 1 + 1 + 1 ≤ n := by omega
  have k8 : ¬ n + 1 + 1 + 1 ≤ n + 1 := by omega
  have tn : (s.name + 1).toNat = s.name.toNat + 1 := by omega
  have hge : 0 ≤ s.name + 1 := by omega
  have tl : List.take l.length (spots l) = spots l := List.take_of_length_le (by simp)
  repeat (with_reducible refine ExecV.auto tabOk ?_; simp [-getElem?_pos, z0, z1, z2, kindV, isPure, e0, e1, e2, e3, e4, e5, k3, k7, k8, hk', h0, hle, hlt, hge, w1, tn, tl]; try (refine And.intro (OkV_old (by simp; try omega) (by omega) (by simp [AllAcc])) ?_))
  have j3 : ¬ n + 1 + 1 + 1 + 1 + 1 + 1 + 1 + 1 + 1 ≤ k := by omega
  have j4 : n + 1 + 1 + 1 + 1 + 1 + 1 + 1 + 1 + 1 < n + 1 + 1 + 1 + 1 + 1 + 1 + 1 + 1 + 1 + 1 + 1 + 1 + 1 + 1 + 1 := by omega
  have j5 : n + 1 + 1 + 1 + 1 + 1 + 1 + 1 + 1 + 1 + 1 < n + 1 + 1 + 1 + 1 + 1 + 1 + 1 + 1 + 1 + 1 + 1 + 1 + 1 + 1 + 1 := by omega
  have j6 : n + 1 + 1 + 1 + 1 + 1 + 1 + 1 + 1 + 1 + 1 + 1 < n + 1 + 1 + 1 + 1 + 1 + 1 + 1 + 1 + 1 + 1 + 1 + 1 + 1 + 1 + 1 := by omega
  refine ExecV.callP [k] (slopes_n (l := l) (h := wh v) (by simp [slopeM, e0, e1, k3, hk]) s (behindS (spots l) s) _ (by omega)) (by omega) (fun i hi => ?_) rfl (by simp [calleeS, evList, spotV, behindS]) (OkV_old (by simp; omega) (by omega) (by simp [AllAcc])) ?_
  · obtain rfl := List.mem_singleton.1 hi
    simp [slopeM, e0, e1, e9, e10, e11, k3, hk]
  refine ExecV.ro (x := .d (ratD (tiltHi v (spots l) s))) (svs := [.d (ratD (10000, 1)), slopeF (n + 1 + 1 + 1 + 1 + 1 + 1 + 1 + 1 + 1), .fn 74 [] []]) [k, n + 1 + 1 + 1 + 1 + 1 + 1 + 1 + 1 + 1, n + 1 + 1 + 1 + 1 + 1 + 1 + 1 + 1 + 1 + 1, n + 1 + 1 + 1 + 1 + 1 + 1 + 1 + 1 + 1 + 1 + 1] (leastSlopes_r (x := .d (.list (spotRows (spots l)))) hv oks hb2 (by simp [behindS]; omega) (by omega) ?_ ?_ ?_ ?_ 74 lessQ (10000, 1) ?_) rfl rfl (by simp [calleeS, evList, slopeF]) ?_ ?_
  · simp [slopeM, e0, e1, hk, k3, j3, pairM]
  · simp [slopeM, j4]
  · simp [slopeM, j5]
  · simp [slopeM, j6]
  · exact fun x hx y hy => (more_of oks hb2 _ (by decide) x hx y hy).2
  · refine OkV_mix (by simp; omega) (by simp [AllAcc]) ?_
    (repeat' (first | exact trivial | refine And.intro (Or.inl rfl) ?_ | refine And.intro (Or.inr (Or.inl (by kernel_rfl))) ?_ | refine And.intro (Or.inr (Or.inr (by simp; omega))) ?_))
  simp only [List.append_assoc, List.cons_append, List.nil_append]
  refine ExecV.auto tabOk ?_; simp [-getElem?_pos, z0, z1, z2, kindV, isPure, ratD]
  refine ExecV.auto tabOk ?_; simp [-getElem?_pos, z0, z1, z2, kindV, isPure, ratD]
  refine ExecV.auto tabOk ?_; simp [-getElem?_pos, z0, z1, z2, kindV, isPure, ratD]
  refine And.intro ?_ ?_
  · (refine OkV_last (by simp; try omega) ?_; repeat' (first | exact trivial | refine And.intro (show ordB _ _ _ = true from by kernel_rfl) ?_))
  refine ExecV.done ?_
  have cl : ACall Try.prog 74 [ratD (tiltHi v (spots l) s), ratD (tiltLo v (spots l) s)] (bD (lessQ (tiltHi v (spots l) s) (tiltLo v (spots l) s))) := by
    have b1 := tilt_in oks hb1 (fun a b => lessQ b a) (-10000, 1) (by decide)
    have b2 := tilt_in oks hb2 lessQ (10000, 1) (by decide)
    exact isLess_c _ _ (mul_in b2.1 b1.2) (mul_in b1.1 b2.2)
  unfold ratD at cl
  have m1 : ¬ n + 1 = n + 1 + 1 + 1 + 1 + 1 + 1 + 1 + 1 + 1 + 1 + 1 + 1 + 1 + 1 + 1 := by omega
  have m2 : ¬ n + 1 + 1 + 1 + 1 + 1 + 1 + 1 + 1 + 1 ≤ n + 1 := by omega
  have out : ∀ j, j < n → ¬ j = n + 1 + 1 + 1 + 1 + 1 + 1 + 1 + 1 + 1 + 1 + 1 + 1 + 1 + 1 + 1 ∧ ¬ n + 1 + 1 + 1 + 1 + 1 + 1 + 1 + 1 + 1 ≤ j ∧ ¬ n + 1 + 1 + 1 ≤ j ∧ ¬ j = n + 1 ∧ ¬ j = n := fun j hj => by omega
  have hcc : lessQ (tiltHi v (spots l) s) (tiltLo v (spots l) s) = true ∨ lessQ (tiltHi v (spots l) s) (tiltLo v (spots l) s) = false := by cases lessQ (tiltHi v (spots l) s) (tiltLo v (spots l) s) <;> simp
  refine KI.go ?_
  rcases hcc with hc | hc
  · rw [hc] at cl
    repeat (first | (with_reducible first | refine AWi.seqK fun _ => ?_ | refine AWi.blockK fun _ => ?_ | refine KI.go ?_) | ((first | refine AWi.region tabOk ?_ | refine AWi.condK fun _ _ => ?_ | refine AWi.draws tabOk rfl (by kernel_rfl) (by kernel_rfl) ?_); simp [-getElem?_pos, z0, z1, z2, m1, m2, k8]) | ((first | refine AWi.ret ?_ | refine AWi.skip ?_ | refine AWi.exit ?_); try simp only [thenP]) | (with_reducible refine BB.go ?_; simp only [blockP, thenP, reduceIte]) | (with_reducible refine And.intro (okLog_c (by simp [footOf, guardSlot, slotsOf, idsRead, looks, idsOf, idsOf1, idsWritten, colF]; kernel_rfl)) ?_))
    refine ExecI.call [] cl ?_ rfl ?_ ?_; (focus simp [-getElem?_pos, m1]); (focus simp [-getElem?_pos, z0, z1, z2, m1]); simp [-getElem?_pos, z0, z1, z2, m1]
    repeat (first | (with_reducible first | refine AWi.seqK fun _ => ?_ | refine AWi.blockK fun _ => ?_ | refine KI.go ?_) | ((first | refine AWi.region tabOk ?_ | refine AWi.condK fun _ _ => ?_ | refine AWi.draws tabOk rfl (by kernel_rfl) (by kernel_rfl) ?_); simp [-getElem?_pos, z0, z1, z2, m1, m2, k8]) | ((first | refine AWi.ret ?_ | refine AWi.skip ?_ | refine AWi.exit ?_); try simp only [thenP]) | (with_reducible refine BB.go ?_; simp only [blockP, thenP, reduceIte]) | (with_reducible refine And.intro (okLog_c (by simp [footOf, guardSlot, slotsOf, idsRead, looks, idsOf, idsOf1, idsWritten, colF]; kernel_rfl)) ?_))
    refine RI.ret (xs := [spanV (0, 0) (0, 0), .d (iD 22)]) (by simp [Try.results54, resSlots, resSlot, spanV, m1, m2, k8]) ?_
    refine ⟨by omega, fun j hj => ?_, by simp [hc, retV]⟩
    obtain ⟨o1, o2, o3, o4, o5⟩ := out j hj
    simp [o1, o2, o3, o4, o5]
  · rw [hc] at cl
    repeat (first | (with_reducible first | refine AWi.seqK fun _ => ?_ | refine AWi.blockK fun _ => ?_ | refine KI.go ?_) | ((first | refine AWi.region tabOk ?_ | refine AWi.condK fun _ _ => ?_ | refine AWi.draws tabOk rfl (by kernel_rfl) (by kernel_rfl) ?_); simp [-getElem?_pos, z0, z1, z2, m1, m2, k8]) | ((first | refine AWi.ret ?_ | refine AWi.skip ?_ | refine AWi.exit ?_); try simp only [thenP]) | (with_reducible refine BB.go ?_; simp only [blockP, thenP, reduceIte]) | (with_reducible refine And.intro (okLog_c (by simp [footOf, guardSlot, slotsOf, idsRead, looks, idsOf, idsOf1, idsWritten, colF]; kernel_rfl)) ?_))
    refine ExecI.call [] cl ?_ rfl ?_ ?_; (focus simp [-getElem?_pos, m1]); (focus simp [-getElem?_pos, z0, z1, z2, m1]); simp [-getElem?_pos, z0, z1, z2, m1]
    repeat (first | (with_reducible first | refine AWi.seqK fun _ => ?_ | refine AWi.blockK fun _ => ?_ | refine KI.go ?_) | ((first | refine AWi.region tabOk ?_ | refine AWi.condK fun _ _ => ?_ | refine AWi.draws tabOk rfl (by kernel_rfl) (by kernel_rfl) ?_); simp [-getElem?_pos, z0, z1, z2, m1, m2, k8]) | ((first | refine AWi.ret ?_ | refine AWi.skip ?_ | refine AWi.exit ?_); try simp only [thenP]) | (with_reducible refine BB.go ?_; simp only [blockP, thenP, reduceIte]) | (with_reducible refine And.intro (okLog_c (by simp [footOf, guardSlot, slotsOf, idsRead, looks, idsOf, idsOf1, idsWritten, colF]; kernel_rfl)) ?_))
    refine RI.ret (xs := [spanV (tiltLo v (spots l) s) (tiltHi v (spots l) s), .d (iD 0)]) (by simp [Try.results54, resSlots, resSlot, spanV, m1, m2, k8]) ?_
    refine ⟨by omega, fun j hj => ?_, by simp [hc, retV]⟩
    obtain ⟨o1, o2, o3, o4, o5⟩ := out j hj
    simp [o1, o2, o3, o4, o5]
end Go.Proofs.Ytjjoiihgpkhndaa.Eng


noncomputable section
namespace Go.Proofs.Ytjjoiihgpkhndaa.Eng
open Go.RowKit
variable {P : Program} {T : Tab} {r : Option Nat} {ns : Nat}
def ExecS (P : Program) (r : Option Nat) (ns : Nat) (ops : Array Oper) : Nat → List Oper → St → (Nat → St → Prop) → Prop
  | n, [], s, Q => Q n s
  | n, o :: l, s, Q => guardS ops ns s o = some true ∧ ∃ G, StepI P r ns n s o G ∧ ∀ n' s', G n' s' → ExecS P r ns ops n' l s' Q
theorem execS_list {W0 : Fix} {R0 : Nat → Prop} {B : Nat} (hi : InAct r W0 R0 B) {ops : Array Oper} {Q : Exit → Act → World → Prop} : ∀ (l : List Oper) (n : Nat) {s : St} {E : Env} {a : Act} {w : World} {Q' : Nat → St → Prop}, ExecS P r ns ops n l s Q' →
    Sim W0 R0 ns (· < n) s E a w → (∀ n' s' E' a' w', Sim W0 R0 ns (· < n') s' E' a' w' → Q' n' s' → Q .normal a' w') → wpListIn (fen (rOf W0 r)) 0 P ops Q l a w
  | [], n, s, E, a, w, Q', h, hs, hQ => hQ n s E a w hs h
  | o :: l, n, s, E, a, w, Q', ⟨hg, G, h1, h2⟩, hs, hQ => by
    refine wpListIn_step fun K hK => ?_
    rw [guard_ok hs hg, if_pos rfl]
    exact h1 W0 R0 B E a w hi hs (guardS_dst hg) K Q fun n' s' E' a' w' hG hs' => hK _ _ (execS_list hi l n' (h2 n' s' hG) hs' hQ)
theorem AWi.regionS {id n : Nat} {s : St} {Q : Post} {l : List Oper} (h : ExecS P r ns l.toArray n l s (fun n' s' => Q .normal n' s')) : AWi P r ns (.region id l.toArray false) n s Q :=
  fun W0 _ _ _ _ _ hi hs => wpIn_region_lit (execS_list hi l n h hs fun n' s' E' _ _ h1 h2 => ⟨n', s', E', W0, Ext.refl _, hi, h1, h2⟩)
section
variable {ops : Array Oper} {o : Oper} {l : List Oper} {n : Nat} {s : St} {Q : Nat → St → Prop}
theorem ExecS.plain (hT : TabOk P T) {out : Out} (hg : guardS ops ns s o = some true) (hw : waits o.op = false) (hx : aop T s.mem n (opd ns s) o.op = some out) (h : ExecS P r ns ops (n + 1) l (putS s n o.dst out) Q) : ExecS P r ns ops n (o :: l) s Q :=
  ⟨hg, fun n' s' => n' = n + 1 ∧ s' = putS s n o.dst out, fun W0 R0 B E a w hi hs hd K Q' hK =>
    oper_in (noDefer_spec (aop_noDefer hx) List.mem_cons_self) (step_wp hT hs (nid := n) (by omega) (N := n) (fun _ h => h) hd ((step_plain hw).2 hx) fun E' a' w' hs' => hK _ _ E' a' w' ⟨rfl, rfl⟩ (hs'.weak fun i hi => by omega)), fun n' s' ⟨e1, e2⟩ => by rw [e1, e2]; exact h⟩
theorem ExecS.slice (hT : TabOk P T) {t e : TypeId} {x : Operand} {i ie : TI} {N id j : Nat} (ho : o.op = .slice t x none none none) (hg : guardS ops ns s o = some true) (hi : T t = some i) (hk : i.kind = .array N e) (hie : T e = some ie) (hN : 0 < N) (hx : opd ns s x = some (.ptr id 0 j))
    (h : ExecS P r ns ops n l ⟨setSlot s.slots o.dst (.sl id j N (some N)), s.mem⟩ Q) : ExecS P r ns ops n (o :: l) s Q :=
  ⟨hg, fun n' s' => n' = n ∧ s' = ⟨setSlot s.slots o.dst (.sl id j N (some N)), s.mem⟩, fun W0 R0 B E a w hin hs hd K Q' hK => by
    have hr := hs.opd hx
    have hc : sliceC T i (.ptr id 0 j) none none none = some (.sl id j N (some N)) := by
      have hN' : ¬ (N : Int) = 0 := by omega
      simp [sliceC, hk, hie, hN']
    obtain ⟨z, h1, h2⟩ := sliceC_run (w := w) hT hi Bd.none Bd.none Bd.none hc hr
    refine oper_in (fun c e => by rw [ho] at e; cases e) ?_
    unfold Oper.wp
    have he : (execOp a.eval o).run P w = .ok (.value z) w := by
      simp only [execOp, ho, Sem.run_bind]
      simp [h1]
    rw [he]
    exact hK n _ E _ w ⟨rfl, rfl⟩ (hs.put hd h2), fun n' s' ⟨e1, e2⟩ => by rw [e1, e2]; exact h⟩
theorem ExecS.clear (hT : TabOk P T) {t e ty : TypeId} {x : Operand} {c : Call} {i ie : TI} {N id j cp : Nat} {cells : List SV} (ho : o.op = .call c) (hc1 : c.callee = .builtin .clear) (hc2 : c.args.toList = [x]) (hc3 : c.argTypes.toList = [t]) (hg : guardS ops ns s o = some true) (hi : T t = some i) (hk : i.kind = .slice e) (hie : T e = some ie) (hN : 0 < N) (hx : opd ns s x = some (.sl id j N (some cp))) (hm : s.mem id = some (.box ty cells false)) (hle : j + N * ie.size ≤ cells.length)
    (h : ExecS P r ns ops n l ⟨setSlot s.slots o.dst (.tup []), setMem s.mem id (some (.box ty (splice cells j (zerosC ie (N * ie.size))) false))⟩ Q) : ExecS P r ns ops n (o :: l) s Q :=
  ⟨hg, fun n' s' => n' = n ∧ s' = ⟨setSlot s.slots o.dst (.tup []), setMem s.mem id (some (.box ty (splice cells j (zerosC ie (N * ie.size))) false))⟩, fun W0 R0 B E a w hin hs hd K Q' hK => by
    rw [call_eq hc1 hc2 hc3] at ho
    have hr := hs.opd hx
    have hu := slice_und (hT t i hi) hk
    obtain ⟨inf, z0, i1, i4, i2, i3, hzs, hz⟩ := zeros_reps (E := E) (w := w) hT hie
    obtain ⟨u, hu'⟩ : ∃ u, a.eval x = u := ⟨_, rfl⟩
    rw [hu'] at hr
    cases hr with
    | sl _ _ _ _ q0 cd hdm hcd hq hnd =>
    obtain rfl := (hq (.inl hN)).symm
    have hro : ¬ E.ro (E.home id).blk := fun k => by have := (hs.frz id _ hm).2 k; cases this
    cases hs.mem id _ hm with
    | box _ _ _ cur h1 h2 h3 h4 =>
    have hR := hz (N * ie.size)
    have hlen : (madeCells z0.cells (N * ie.size)).toList.length = N * ie.size := by simp [size_madeCells]
    have hst := run_storeCells_at P (E.home id).blk j ty (madeCells z0.cells (N * ie.size)).toList 0 cur w h1 (by rw [hlen]; omega) hR.ones
    simp only [Nat.add_zero] at hst
    have hzv : (zeroValue e).run P w = .ok z0 w := by simp [zeroValue, typeInfo, i1, i4]
    have hzc : Builtin.zeroCells z0.cells N = madeCells z0.cells (N * ie.size) := by unfold Builtin.zeroCells madeCells; rw [hzs]
    obtain ⟨q, rfl⟩ : ∃ q, N = q + 1 := ⟨N - 1, by omega⟩
    have hrun : (Builtin.clear_ #[t] o.type #[.slice (some ⟨(E.home id).blk, j, none⟩) (q + 1) cd]).run P w = .ok (.tuple #[]) (w.setRow (E.home id).blk (cur.toList.take j ++ (madeCells z0.cells ((q + 1) * ie.size)).toList ++ cur.toList.drop (j + (madeCells z0.cells ((q + 1) * ie.size)).toList.length)).toArray) := by
      simp [Builtin.clear_, run_underlying hu, hzv, hzc]
      simp at hst
      rw [hst]
      simp
    have he : (execOp a.eval o).run P w = .ok (.value (.tuple #[])) (w.setRow (E.home id).blk (cur.toList.take j ++ (madeCells z0.cells ((q + 1) * ie.size)).toList ++ cur.toList.drop (j + (madeCells z0.cells ((q + 1) * ie.size)).toList.length)).toArray) := by
      simp only [execOp, ho, resolve, invoke, builtin, Sem.run_bind, Sem.run_pure, Result.andThen_ok, List.map_toArray, List.map_cons, List.map_nil, hu', hrun]
    have hw : ∀ b, E.ro b → (w.setRow (E.home id).blk (cur.toList.take j ++ (madeCells z0.cells ((q + 1) * ie.size)).toList ++ cur.toList.drop (j + (madeCells z0.cells ((q + 1) * ie.size)).toList.length)).toArray).heap[b]? = w.heap[b]? := fun b hb => setRow_other _ _ _ _ (fun e => hro (e ▸ hb))
    have hC : Reps E w cells cur.toList := ⟨by simpa using h2, h3, fun i c v hc hv => h4 i c v hc (by simpa using hv)⟩
    have hS := (hC.keep (Env.le.refl E) hw).splice (hR.keep (Env.le.refl E) hw) j (by rw [zerosC_len]; exact hle) (cur.toList.take j ++ (madeCells z0.cells ((q + 1) * ie.size)).toList ++ cur.toList.drop (j + (madeCells z0.cells ((q + 1) * ie.size)).toList.length)).toArray (by simp [size_madeCells]; omega) fun k => by
      rw [splice_at cur _ j (by rw [hlen]; omega)]
      by_cases q1 : j ≤ k ∧ k < j + (madeCells z0.cells ((q + 1) * ie.size)).toList.length
      · rw [if_pos q1, if_pos ⟨q1.1, q1.2, by rw [hlen] at q1; simp; omega⟩]
      · rw [if_neg q1, if_neg (fun q' => q1 ⟨q'.1, q'.2.1⟩)]; simp
    have h6 : Sim W0 R0 ns (· < n) ⟨s.slots, setMem s.mem id (some (.box ty (splice cells j (zerosC ie ((q + 1) * ie.size))) false))⟩ E a (w.setRow (E.home id).blk (cur.toList.take j ++ (madeCells z0.cells ((q + 1) * ie.size)).toList ++ cur.toList.drop (j + (madeCells z0.cells ((q + 1) * ie.size)).toList.length)).toArray) :=
      hs.write hm rfl rfl (grown_setRow _ _ _) (.box ty _ _ _ (setRow_heap _ _ _ _ _ _ h1) (by simpa using hS.1) hS.2.1 fun i c v hc hv => hS.2.2 i c v hc (by simpa using hv))
    refine oper_in (fun c e => by rw [ho] at e; cases e) ?_
    unfold Oper.wp
    rw [he]
    exact hK n _ E _ _ ⟨rfl, rfl⟩ (h6.put hd (.tup [] #[] rfl (by simp))), fun n' s' ⟨e1, e2⟩ => by rw [e1, e2]; exact h⟩
end
end Go.Proofs.Ytjjoiihgpkhndaa.Eng


noncomputable section
namespace Go.Proofs.Ytjjoiihgpkhndaa.Eng
open Go.RowKit
def byF (f : Spot → Int × Int) (L : List Spot) : List (Int × Int) := L.map f ++ List.replicate (25 - L.length) (0, 0)
theorem byF_len (f : Spot → Int × Int) (L : List Spot) (h : L.length ≤ 25) : (byF f L).length = 25 := by simp [byF]; omega
theorem byF_succ (f : Spot → Int × Int) {L : List Spot} {i : Nat} {q : Spot} (h : L[i]? = some q) (hl : L.length ≤ 25) : byF f (L.take (i + 1)) = (byF f (L.take i)).set i (f q) := by
  obtain ⟨hi, rfl⟩ := List.getElem?_eq_some_iff.1 h
  have e1 : (L.take i).length = i := by simp; omega
  have e2 : (L.take (i + 1)).length = i + 1 := by simp; omega
  unfold byF
  rw [e1, e2, List.take_succ_eq_append_getElem hi, List.map_append, List.set_append, if_neg (by simp; omega)]
  have e3 : i - (List.map f (L.take i)).length = 0 := by simp; omega
  rw [e3, show 25 - i = (25 - (i + 1)) + 1 by omega, List.replicate_succ]
  simp
abbrev ratTI : TI := { size := 2, bytes := 16, zero := [.int .i64 0, .int .i64 0], kind := .struct [(0, 2), (1, 2)], eqk := [.i64, .i64] }
theorem zeros25 : zerosC ratTI 50 = (rowQ noH).map SV.d := rfl
theorem clear25 (x : SV) (h : List (Int × Int)) (hh : h.length = 25) : splice (x :: (rowQ h).map SV.d) 1 (zerosC ratTI (25 * ratTI.size)) = x :: (rowQ noH).map SV.d := by
  have e : zerosC ratTI (25 * ratTI.size) = (rowQ noH).map SV.d := zeros25
  rw [e]
  have h50 : (rowQ h).length = 50 := by rw [rowQ_len]; omega
  have g50 : (rowQ noH).length = 50 := rfl
  simp [splice, g50, h50]
theorem spots_name {l : List CSt} {i : Nat} {q : Spot} (h : (spots l)[i]? = some q) : q.name = (i : Int) := by
  have hi : i < l.length := by have := (List.getElem?_eq_some_iff.1 h).1; simpa using this
  rw [spots_get (List.getElem?_eq_getElem hi)] at h
  cases h
  rfl
theorem pair_set {x : SV} {p : List (Int × Int)} {k : Nat} {q : Int × Int} (h : k < p.length) : splice (x :: (rowQ p).map SV.d) (1 + k * 2) [.d (iD q.1), .d (iD q.2)] = x :: (rowQ (p.set k q)).map SV.d := by
  have h2 : (rowQ p).length = 2 * p.length := rowQ_len p
  rw [rowQ_set p k q h]
  simp only [splice, List.length_cons, List.length_nil, Nat.zero_add, Nat.reduceAdd, show 1 + k * 2 + 2 = (k * 2 + 2) + 1 by omega, show 1 + k * 2 = k * 2 + 1 by omega, List.take_succ_cons, List.drop_succ_cons, List.map_append, List.map_take, List.map_drop, List.map_cons, List.map_nil, List.cons_append, List.append_assoc]
set_option maxRecDepth 100000 in
set_option maxHeartbeats 8000000 in
theorem set_w {l : List CSt} {k : Nat} {m : Mem} {h : List (Int × Int)} (hk : m k = some (pairM l h)) (hh : h.length = 25) (hl : l.length ≤ 25) {F : FuncId} {us vs : List SV} (f : Spot → Int × Int) (a b c n : Nat) (hn : k < n) (ha : a < n ∧ ¬ a = k) (hb : b < n ∧ ¬ b = k) (hc : c < n ∧ ¬ c = k)
    (hF : ∀ q ∈ spots l, ∀ m' : Mem, (∀ i ∈ [a, b, c], m' i = m i) → RCall Try.prog F (us ++ [spotV q] ++ vs) (ratD (f q)) (only m' [a, b, c])) :
    CWp Try.prog 60 [.ptr k 0 0, .fn F us vs] n m fun _ n' m' => n ≤ n' ∧ (∀ j, j < n → ¬ j = k → m' j = m j) ∧ m' k = some (pairM l (byF f (spots l))) := by
  have hk' : m k = some (.box 93 (.d (.list (spotRows (spots l))) :: (rowQ h).map SV.d) false) := hk
  have h50 : (rowQ h).length = 50 := by rw [rowQ_len]; omega
  refine cwpK tabOk Try.func60 rfl rfl (show 2 ≤ _ by decide) rfl fun _ => ?_; simp only [Try.ntmps60]
  refine AWi.seqK fun _ => ?_
  refine AWi.regionS ?_
  refine ExecS.plain tabOk (out := { res := .ptr k 0 0 }) rfl rfl (by simp [-getElem?_pos, z0, z1, z2]) ?_
  refine ExecS.plain tabOk (out := { res := .ptr k 0 0 }) rfl rfl (by simp [-getElem?_pos, z0, z1, z2]) ?_
  refine ExecS.plain tabOk (out := { res := .ptr k 0 1 }) rfl rfl (by simp [-getElem?_pos, z0, z1, z2]) ?_
  refine ExecS.slice tabOk (N := 25) (id := k) (j := 1) rfl rfl (TB91) rfl (TB25) (by decide) (by simp [-getElem?_pos, z0, z1, z2]) ?_
  refine ExecS.clear tabOk (N := 25) (id := k) (j := 1) (cp := 25) rfl rfl rfl rfl rfl (TB26) rfl (TB25) (by decide) (by simp [-getElem?_pos, z0, z1, z2]) (by simp; exact hk') (by simp; omega) ?_
  rw [show splice _ _ _ = _ from clear25 _ h hh]
  simp [putS, ExecS]
  with_reducible refine KI.go ?_
  repeat (first | (with_reducible first | refine AWi.seqK fun _ => ?_ | refine AWi.blockK fun _ => ?_ | refine KI.go ?_) | ((first | refine AWi.region tabOk ?_ | refine AWi.condK fun _ _ => ?_ | refine AWi.draws tabOk rfl (by kernel_rfl) (by kernel_rfl) ?_); simp [-getElem?_pos, z0, z1, z2, z0]) | ((first | refine AWi.ret ?_ | refine AWi.skip ?_ | refine AWi.exit ?_); try simp only [thenP]) | (with_reducible refine BB.go ?_; simp only [blockP, thenP, reduceIte]) | (with_reducible refine And.intro (okLog_c (by simp [footOf, guardSlot, slotsOf, idsRead, looks, idsOf, idsOf1, idsWritten, colF]; kernel_rfl)) ?_))
  refine AWi.loopK (fun (i : { i : Nat // i ≤ l.length }) n1 st => n + 3 ≤ n1 ∧ st.slots 0 = .ptr k 0 0 ∧ st.slots 1 = .fn F us vs ∧ st.slots 13 = .d (.list (spotRows (spots l))) ∧ st.slots 14 = .d (iD l.length) ∧ st.slots 15 = .d (iD i.1) ∧ st.mem k = some (pairM l (byF f ((spots l).take i.1))) ∧ ∀ j, j < n → ¬ j = k → st.mem j = m j) (fun i => l.length - i.1) ⟨0, Nat.zero_le _⟩ ?_ ?_
  · exact ⟨by omega, by simp, by simp, by simp, by simp, by simp, by simp; rfl, fun j h1 h2 => by simp [h2]⟩
  · rintro ⟨i, hi⟩ n1 st ⟨r0, r1, r2, r3, r4, r5, r6, r7⟩ kk
    simp only at r5 r6
    have w1 : IntKind.i64.wrap ((i : Int) + 1) = (i : Int) + 1 := wrap64_in (by omega)
    by_cases hlt : i < l.length
    · obtain ⟨q, hq⟩ : ∃ q, (spots l)[i]? = some q := ⟨_, List.getElem?_eq_getElem (by simpa using hlt)⟩
      have qn := spots_name hq
      have e1 : ¬ k = n1 + 1 + 1 + 1 := by omega
      have e1' : ¬ n1 + 1 + 1 + 1 = k := by omega
      have ea : ¬ a = n1 + 1 + 1 + 1 := by omega
      have eb : ¬ b = n1 + 1 + 1 + 1 := by omega
      have ec : ¬ c = n1 + 1 + 1 + 1 := by omega
      repeat (first | (with_reducible first | refine AWi.seqK fun _ => ?_ | refine AWi.blockK fun _ => ?_ | refine KI.go ?_) | ((first | refine AWi.region tabOk ?_ | refine AWi.condK fun _ _ => ?_ | refine AWi.draws tabOk rfl (by kernel_rfl) (by kernel_rfl) ?_); simp [-getElem?_pos, z0, z1, z2, r1, r2, r3, r4, r5, hlt, hq, e1, w1]) | ((first | refine AWi.ret ?_ | refine AWi.skip ?_ | refine AWi.exit ?_); try simp only [thenP]) | (with_reducible refine BB.go ?_; simp only [blockP, thenP, reduceIte]) | (with_reducible refine And.intro (okLog_c (by simp [footOf, guardSlot, slotsOf, idsRead, looks, idsOf, idsOf1, idsWritten, colF]; kernel_rfl)) ?_))
      have hF' := hF q (List.mem_of_getElem? hq)
      simp only [spotV] at hF'
      have h25 : i < 25 := by omega
      have h25' : (i : Int) < 25 := by omega
      have hb' : (byF f ((spots l).take i)).length = 25 := byF_len _ _ (by simp; omega)
      have r6' : st.mem k = some (.box 93 (.d (.list (spotRows (spots l))) :: (rowQ (byF f ((spots l).take i))).map SV.d) false) := r6
      have d2 : 1 + i * 2 + 1 ≤ (rowQ (byF f ((spots l).take i))).length := by rw [rowQ_len]; omega
      have d3 : 1 + i * 2 + 2 ≤ (rowQ (byF f ((spots l).take i))).length + 1 := by omega
      refine Exec.callR [a, b, c] (hF' _ (by simp [ea, eb, ec, ha, hb, hc, r7])) rfl (by simp [calleeS, evList, r1, r2, e1, e1', qn, h25, h25', r6', d2, d3, ratD]) ?_; simp [-getElem?_pos, z0, z1, z2, r1, r2, e1, e1', qn, h25, h25', r6', d2, d3, ratD]
      refine And.intro (okLog_by (colA (k)) (by simp only [List.map_cons, List.map_nil, List.map_append, List.nil_append, List.cons_append, colBy, colA_even, colA_self, colA_other, Nat.reduceMod, not_false_eq_true, e1', ha.2, hb.2, hc.2]; kernel_rfl)) ?_
      repeat (first | (with_reducible first | refine AWi.seqK fun _ => ?_ | refine AWi.blockK fun _ => ?_ | refine KI.go ?_) | ((first | refine AWi.region tabOk ?_ | refine AWi.condK fun _ _ => ?_ | refine AWi.draws tabOk rfl (by kernel_rfl) (by kernel_rfl) ?_); simp [-getElem?_pos, z0, z1, z2, r1, r2, r3, r4, r5, w1]) | ((first | refine AWi.ret ?_ | refine AWi.skip ?_ | refine AWi.exit ?_); try simp only [thenP]) | (with_reducible refine BB.go ?_; simp only [blockP, thenP, reduceIte]) | (with_reducible refine And.intro (okLog_c (by simp [footOf, guardSlot, slotsOf, idsRead, looks, idsOf, idsOf1, idsWritten, colF]; kernel_rfl)) ?_))
      refine LI.go ⟨i + 1, by omega⟩ ⟨by omega, by simp [r1], by simp [r2], by simp [r3], by simp [r4], by simp, ?_, fun j h1 h2 => ?_⟩ (by simp; omega)
      · have ps := pair_set (x := .d (.list (spotRows (spots l)))) (p := byF f ((spots l).take i)) (k := i) (q := f q) (by omega)
        rw [← byF_succ f hq (by simp; omega)] at ps
        simp only [splice, List.length_cons, List.length_nil, Nat.zero_add, Nat.reduceAdd, Nat.reduceSub, show 1 + i * 2 + 2 = (1 + i * 2 + 1) + 1 by omega, List.drop_succ_cons] at ps
        simp only [List.append_assoc, List.cons_append, List.nil_append] at ps
        simp only [ps]
        exact if_pos rfl
      · simp [h2, show ¬ j = n1 + 1 + 1 + 1 by omega]
        exact r7 j h1 h2
    · repeat (first | (with_reducible first | refine AWi.seqK fun _ => ?_ | refine AWi.blockK fun _ => ?_ | refine KI.go ?_) | ((first | refine AWi.region tabOk ?_ | refine AWi.condK fun _ _ => ?_ | refine AWi.draws tabOk rfl (by kernel_rfl) (by kernel_rfl) ?_); simp [-getElem?_pos, z0, z1, z2, r1, r2, r3, r4, r5, hlt]) | ((first | refine AWi.ret ?_ | refine AWi.skip ?_ | refine AWi.exit ?_); try simp only [thenP]) | (with_reducible refine BB.go ?_; simp only [blockP, thenP, reduceIte]) | (with_reducible refine And.intro (okLog_c (by simp [footOf, guardSlot, slotsOf, idsRead, looks, idsOf, idsOf1, idsWritten, colF]; kernel_rfl)) ?_))
      refine RI.normal rfl ⟨by omega, r7, ?_⟩
      rw [show i = (spots l).length by simp; omega, List.take_length] at r6
      exact r6
end Go.Proofs.Ytjjoiihgpkhndaa.Eng


namespace Go.Proofs.Ytjjoiihgpkhndaa.Eng
open Go.RowKit
def truthF (v : List Int) (q : Spot) : Int × Int := ((v[q.name.toNat]?).getD 0, 1)
set_option maxRecDepth 100000 in
theorem truthH_w {v : List Int} {q : Spot} {x : Int} (h0 : 0 ≤ q.name) (hx : v[q.name.toNat]? = some x) (n : Nat) (m : Mem) : CWp Try.prog 79 [.d (intL v), spotV q] n m fun y _ m' => toD3 y = some (ratD (x, 1)) ∧ ∀ j, j < n → m' j = m j := by
  have c := whole_c x
  have hlt : q.name < v.length := by have := (List.getElem?_eq_some_iff.1 hx).1; omega
  unfold spotV
  refine cwpK tabOk Try.func79 rfl rfl (show 2 ≤ _ by decide) rfl fun _ => ?_; simp only [Try.ntmps79]
  repeat (first | (with_reducible first | refine AWi.seqK fun _ => ?_ | refine AWi.blockK fun _ => ?_ | refine KI.go ?_) | ((first | refine AWi.region tabOk ?_ | refine AWi.condK fun _ _ => ?_ | refine AWi.draws tabOk rfl (by kernel_rfl) (by kernel_rfl) ?_); simp [-getElem?_pos, z0, z1, z2, h0, hx, hlt]) | ((first | refine AWi.ret ?_ | refine AWi.skip ?_ | refine AWi.exit ?_); try simp only [thenP]) | (with_reducible refine BB.go ?_; simp only [blockP, thenP, reduceIte]) | (with_reducible refine And.intro (okLog_c (by simp [footOf, guardSlot, slotsOf, idsRead, looks, idsOf, idsOf1, idsWritten, colF]; kernel_rfl)) ?_))
  refine ExecI.call [] c ?_ rfl ?_ ?_; (focus simp [-getElem?_pos, ratD]); (focus simp [-getElem?_pos, z0, z1, z2, ratD]); simp [-getElem?_pos, z0, z1, z2, ratD]
  repeat (first | (with_reducible first | refine AWi.seqK fun _ => ?_ | refine AWi.blockK fun _ => ?_ | refine KI.go ?_) | ((first | refine AWi.region tabOk ?_ | refine AWi.condK fun _ _ => ?_ | refine AWi.draws tabOk rfl (by kernel_rfl) (by kernel_rfl) ?_); simp [-getElem?_pos, z0, z1, z2, z0]) | ((first | refine AWi.ret ?_ | refine AWi.skip ?_ | refine AWi.exit ?_); try simp only [thenP]) | (with_reducible refine BB.go ?_; simp only [blockP, thenP, reduceIte]) | (with_reducible refine And.intro (okLog_c (by simp [footOf, guardSlot, slotsOf, idsRead, looks, idsOf, idsOf1, idsWritten, colF]; kernel_rfl)) ?_))
  refine RI.ret (xs := [ratV (x, 1)]) (by simp [Try.results79, resSlots, resSlot, ratV]) ?_
  exact ⟨ratV_data _, fun j hj => by simp [show ¬ j = n by omega, show ¬ j = n + 1 by omega]⟩
theorem truthH_r {v : List Int} {q : Spot} (h0 : 0 ≤ q.name) (hx : q.name.toNat < v.length) (m : Mem) : RCall Try.prog 79 ([.d (intL v)] ++ [spotV q] ++ []) (ratD (truthF v q)) m := by
  unfold truthF
  rw [List.getElem?_eq_getElem hx]
  exact RCall.of3 (n0 := 0) fun n _ => truthH_w h0 (List.getElem?_eq_getElem hx) n m
theorem wh_by {l : List CSt} {v : List Int} (h : v.length = l.length) : byF (truthF v) (spots l) = wh v := by
  unfold byF wh
  rw [spots_len, h]
  congr 1
  apply List.ext_getElem? 
  intro i
  by_cases hi : i < l.length
  · obtain ⟨q, hq⟩ : ∃ q, (spots l)[i]? = some q := ⟨_, List.getElem?_eq_getElem (by simpa using hi)⟩
    have hv : v[i]? = some v[i] := List.getElem?_eq_getElem (by omega)
    rw [List.getElem?_map, List.getElem?_map, hq, hv]
    simp [truthF, spots_name hq, hv]
  · rw [List.getElem?_eq_none (by simp; omega), List.getElem?_eq_none (by simp; omega)]
def trOk (l : List CSt) (v : List Int) (k : Nat) : Bool := ((spots l).take k).all fun q => fromK q.lo q.hi [(v[q.name.toNat]?).getD 0]
def truthErr (l : List CSt) (v : List Int) : Int := if pairErr l = 0 then (if v.length = l.length then (if trOk l v l.length = true then 0 else 3) else 15) else pairErr l
set_option maxRecDepth 100000 in
set_option maxHeartbeats 8000000 in
theorem checkTruth_w (l : List CSt) (v : List Int) (n : Nat) (m : Mem) : CWp Try.prog 49 [.d (pairD l), .d (intL v)] n m fun y n' m' => n ≤ n' ∧ (∀ j, j < n → m' j = m j) ∧
    (truthErr l v ≠ 0 ∧ y = .tup [.d (.val (.pointer none)), .d (iD (truthErr l v))] ∨ truthErr l v = 0 ∧ ∃ k, n ≤ k ∧ k < n' ∧ y = .tup [.ptr k 0 0, .d (iD 0)] ∧ m' k = some (pairM l (wh v))) := by
  have cw := check_w l
  by_cases h0 : pairErr l = 0
  · have hl : l.length ≤ 25 := by
      unfold pairErr at h0
      split at h0
      · cases h0
      · omega
    by_cases hv : v.length = l.length
    · refine cwpK tabOk Try.func49 rfl rfl (show 2 ≤ _ by decide) rfl fun _ => ?_; simp only [Try.ntmps49]
      repeat (first | (with_reducible first | refine AWi.seqK fun _ => ?_ | refine AWi.blockK fun _ => ?_ | refine KI.go ?_) | ((first | refine AWi.region tabOk ?_ | refine AWi.condK fun _ _ => ?_ | refine AWi.draws tabOk rfl (by kernel_rfl) (by kernel_rfl) ?_); simp [-getElem?_pos, z0, z1, z2, z0]) | ((first | refine AWi.ret ?_ | refine AWi.skip ?_ | refine AWi.exit ?_); try simp only [thenP]) | (with_reducible refine BB.go ?_; simp only [blockP, thenP, reduceIte]) | (with_reducible refine And.intro (okLog_c (by simp [footOf, guardSlot, slotsOf, idsRead, looks, idsOf, idsOf1, idsWritten, colF]; kernel_rfl)) ?_))
      refine ExecI.callC (cw _ _) rfl (by simp [calleeS, evList]) ?_
      rintro y n1 m1 ⟨k1, k2, ⟨h, _⟩ | ⟨_, k, k3, k4, rfl, k5⟩⟩
      · exact absurd h0 h
      have k5' : m1 k = some (.box 93 (.d (.list (spotRows (spots l))) :: (rowQ noH).map SV.d) false) := k5
      simp
      repeat (first | (with_reducible first | refine AWi.seqK fun _ => ?_ | refine AWi.blockK fun _ => ?_ | refine KI.go ?_) | ((first | refine AWi.region tabOk ?_ | refine AWi.condK fun _ _ => ?_ | refine AWi.draws tabOk rfl (by kernel_rfl) (by kernel_rfl) ?_); simp [-getElem?_pos, z0, z1, z2, hv, k5']) | ((first | refine AWi.ret ?_ | refine AWi.skip ?_ | refine AWi.exit ?_); try simp only [thenP]) | (with_reducible refine BB.go ?_; simp only [blockP, thenP, reduceIte]) | (with_reducible refine And.intro (okLog_c (by simp [footOf, guardSlot, slotsOf, idsRead, looks, idsOf, idsOf1, idsWritten, colF]; kernel_rfl)) ?_))
      refine AWi.loopK (fun (i : { i : Nat // i ≤ l.length ∧ trOk l v i = true }) n2 st => n1 ≤ n2 ∧ st.slots 1 = .d (intL v) ∧ st.slots 6 = .ptr k 0 0 ∧ st.slots 26 = .d (.list (spotRows (spots l))) ∧ st.slots 27 = .d (iD l.length) ∧ st.slots 28 = .d (iD i.1) ∧ ∀ j, j < n1 → st.mem j = m1 j) (fun i => l.length - i.1) ⟨0, Nat.zero_le _, by simp [trOk]⟩ ?_ ?_
      · exact ⟨by omega, by simp, by simp, by simp, by simp, by simp, fun j hj => by simp⟩
      · rintro ⟨i, hi, hal⟩ n2 st ⟨r0, r1, r2, r3, r4, r5, r6⟩ kk
        simp only at r5
        have w1 : IntKind.i64.wrap ((i : Int) + 1) = (i : Int) + 1 := wrap64_in (by omega)
        by_cases hlt : i < l.length
        · obtain ⟨q, hq⟩ : ∃ q, (spots l)[i]? = some q := ⟨_, List.getElem?_eq_getElem (by simpa using hlt)⟩
          have qn := spots_name hq
          have hvi : v[i]? = some v[i] := List.getElem?_eq_getElem (by omega)
          obtain ⟨x, hx⟩ : ∃ x, v[i]? = some x := ⟨_, hvi⟩
          have hiv : i < v.length := by omega
          have c : ACall Try.prog 78 [iD q.lo, iD q.hi, .list [[iD x]]] (bD (fromK q.lo q.hi [x])) := areFrom_c q.lo q.hi [x] (by simp)
          have e1 : ¬ k = n2 + 1 + 1 + 1 := by omega
          have eo : ¬ n2 + 1 + 1 + 1 = n2 + 1 + 1 + 1 + 1 + 1 + 1 + 1 + 1 + 1 + 1 + 1 + 1 + 1 + 1 + 1 + 1 + 1 + 1 := by omega
          have tr : trOk l v (i + 1) = fromK q.lo q.hi [x] := by
            unfold trOk at hal ⊢
            rw [allK_take hq, hal, Bool.true_and, qn]
            simp [hx]
          rcases hg : fromK q.lo q.hi [x] <;> rw [hg] at c tr
          · have ht : truthErr l v = 3 := by
              have : trOk l v l.length = false := by
                unfold trOk at tr ⊢
                rw [List.all_eq_false] at tr ⊢
                obtain ⟨y, hy, hy2⟩ := tr
                exact ⟨y, List.take_subset_take_left _ (by omega) hy, hy2⟩
              simp [truthErr, h0, hv, this]
            repeat (first | (with_reducible first | refine AWi.seqK fun _ => ?_ | refine AWi.blockK fun _ => ?_ | refine KI.go ?_) | ((first | refine AWi.region tabOk ?_ | refine AWi.condK fun _ _ => ?_ | refine AWi.draws tabOk rfl (by kernel_rfl) (by kernel_rfl) ?_); simp [-getElem?_pos, z0, z1, z2, r1, r2, r3, r4, r5, hlt, hq, e1, w1, qn, hx, hiv]) | ((first | refine AWi.ret ?_ | refine AWi.skip ?_ | refine AWi.exit ?_); try simp only [thenP]) | (with_reducible refine BB.go ?_; simp only [blockP, thenP, reduceIte]) | (with_reducible refine And.intro (okLog_c (by simp [footOf, guardSlot, slotsOf, idsRead, looks, idsOf, idsOf1, idsWritten, colF]; kernel_rfl)) ?_))
            refine Exec.call [n2 + 1 + 1 + 1 + 1 + 1 + 1 + 1 + 1 + 1 + 1 + 1 + 1 + 1 + 1 + 1 + 1 + 1 + 1] c ?_ rfl ?_ ?_; (focus simp [-getElem?_pos]); (focus simp [-getElem?_pos, z0, z1, z2, e1]); simp [-getElem?_pos, z0, z1, z2, e1]
            refine And.intro (okLog_by (colA (n2 + 1 + 1 + 1 + 1 + 1 + 1 + 1 + 1 + 1 + 1 + 1 + 1 + 1 + 1 + 1 + 1 + 1 + 1)) (by simp only [List.map_cons, List.map_nil, List.map_append, List.nil_append, List.cons_append, colBy, colA_even, colA_self, colA_other, Nat.reduceMod, not_false_eq_true, eo]; kernel_rfl)) ?_
            repeat (first | (with_reducible first | refine AWi.seqK fun _ => ?_ | refine AWi.blockK fun _ => ?_ | refine KI.go ?_) | ((first | refine AWi.region tabOk ?_ | refine AWi.condK fun _ _ => ?_ | refine AWi.draws tabOk rfl (by kernel_rfl) (by kernel_rfl) ?_); simp [-getElem?_pos, z0, z1, z2, r1, r2, r3, r4, r5]) | ((first | refine AWi.ret ?_ | refine AWi.skip ?_ | refine AWi.exit ?_); try simp only [thenP]) | (with_reducible refine BB.go ?_; simp only [blockP, thenP, reduceIte]) | (with_reducible refine And.intro (okLog_c (by simp [footOf, guardSlot, slotsOf, idsRead, looks, idsOf, idsOf1, idsWritten, colF]; kernel_rfl)) ?_))
            exact RI.ret rfl ⟨by omega, fun j hj => by simp [show ¬ j = n2 + 1 + 1 + 1 by omega, show ¬ j = n2 + 1 + 1 + 1 + 1 + 1 + 1 + 1 + 1 + 1 + 1 + 1 + 1 + 1 + 1 + 1 + 1 + 1 + 1 by omega]; rw [r6 j (by omega)]; exact k2 j (by omega), .inl ⟨by rw [ht]; decide, by rw [ht]; rfl⟩⟩
          · repeat (first | (with_reducible first | refine AWi.seqK fun _ => ?_ | refine AWi.blockK fun _ => ?_ | refine KI.go ?_) | ((first | refine AWi.region tabOk ?_ | refine AWi.condK fun _ _ => ?_ | refine AWi.draws tabOk rfl (by kernel_rfl) (by kernel_rfl) ?_); simp [-getElem?_pos, z0, z1, z2, r1, r2, r3, r4, r5, hlt, hq, e1, w1, qn, hx, hiv]) | ((first | refine AWi.ret ?_ | refine AWi.skip ?_ | refine AWi.exit ?_); try simp only [thenP]) | (with_reducible refine BB.go ?_; simp only [blockP, thenP, reduceIte]) | (with_reducible refine And.intro (okLog_c (by simp [footOf, guardSlot, slotsOf, idsRead, looks, idsOf, idsOf1, idsWritten, colF]; kernel_rfl)) ?_))
            refine Exec.call [n2 + 1 + 1 + 1 + 1 + 1 + 1 + 1 + 1 + 1 + 1 + 1 + 1 + 1 + 1 + 1 + 1 + 1 + 1] c ?_ rfl ?_ ?_; (focus simp [-getElem?_pos]); (focus simp [-getElem?_pos, z0, z1, z2, e1]); simp [-getElem?_pos, z0, z1, z2, e1]
            refine And.intro (okLog_by (colA (n2 + 1 + 1 + 1 + 1 + 1 + 1 + 1 + 1 + 1 + 1 + 1 + 1 + 1 + 1 + 1 + 1 + 1 + 1)) (by simp only [List.map_cons, List.map_nil, List.map_append, List.nil_append, List.cons_append, colBy, colA_even, colA_self, colA_other, Nat.reduceMod, not_false_eq_true, eo]; kernel_rfl)) ?_
            repeat (first | (with_reducible first | refine AWi.seqK fun _ => ?_ | refine AWi.blockK fun _ => ?_ | refine KI.go ?_) | ((first | refine AWi.region tabOk ?_ | refine AWi.condK fun _ _ => ?_ | refine AWi.draws tabOk rfl (by kernel_rfl) (by kernel_rfl) ?_); simp [-getElem?_pos, z0, z1, z2, r1, r2, r3, r4, r5, w1]) | ((first | refine AWi.ret ?_ | refine AWi.skip ?_ | refine AWi.exit ?_); try simp only [thenP]) | (with_reducible refine BB.go ?_; simp only [blockP, thenP, reduceIte]) | (with_reducible refine And.intro (okLog_c (by simp [footOf, guardSlot, slotsOf, idsRead, looks, idsOf, idsOf1, idsWritten, colF]; kernel_rfl)) ?_))
            refine LI.go ⟨i + 1, by omega, tr⟩ ⟨by omega, by simp [r1], by simp [r2], by simp [r3], by simp [r4], by simp, fun j hj => ?_⟩ (by simp; omega)
            simp [show ¬ j = n2 + 1 + 1 + 1 by omega, show ¬ j = n2 + 1 + 1 + 1 + 1 + 1 + 1 + 1 + 1 + 1 + 1 + 1 + 1 + 1 + 1 + 1 + 1 + 1 + 1 by omega]
            exact r6 j hj
        · obtain rfl : i = l.length := by omega
          have ht : truthErr l v = 0 := by simp [truthErr, h0, hv, hal]
          repeat (first | (with_reducible first | refine AWi.seqK fun _ => ?_ | refine AWi.blockK fun _ => ?_ | refine KI.go ?_) | ((first | refine AWi.region tabOk ?_ | refine AWi.condK fun _ _ => ?_ | refine AWi.draws tabOk rfl (by kernel_rfl) (by kernel_rfl) ?_); simp [-getElem?_pos, z0, z1, z2, r1, r2, r3, r4, r5, hlt]) | ((first | refine AWi.ret ?_ | refine AWi.skip ?_ | refine AWi.exit ?_); try simp only [thenP]) | (with_reducible refine BB.go ?_; simp only [blockP, thenP, reduceIte]) | (with_reducible refine And.intro (okLog_c (by simp [footOf, guardSlot, slotsOf, idsRead, looks, idsOf, idsOf1, idsWritten, colF]; kernel_rfl)) ?_))
          have k6 : st.mem k = some (pairM l noH) := (r6 k (by omega)).trans k5
          refine ExecI.callC (set_w (F := 79) (us := [.d (intL v)]) (vs := []) k6 (by rfl) hl (truthF v) (k + 1) (k + 1) (k + 1) _ (by omega) ⟨by omega, by omega⟩ ⟨by omega, by omega⟩ ⟨by omega, by omega⟩ fun q hq m' _ => ?_) rfl (by simp [calleeS, evList]) ?_
          · obtain ⟨i, hi2⟩ := List.getElem?_of_mem hq
            have qn := spots_name hi2
            have hi3 : i < l.length := by have := (List.getElem?_eq_some_iff.1 hi2).1; simpa using this
            exact truthH_r (by omega) (by omega) _
          rintro y n3 m3 ⟨k7, k8, k9⟩
          simp
          repeat (first | (with_reducible first | refine AWi.seqK fun _ => ?_ | refine AWi.blockK fun _ => ?_ | refine KI.go ?_) | ((first | refine AWi.region tabOk ?_ | refine AWi.condK fun _ _ => ?_ | refine AWi.draws tabOk rfl (by kernel_rfl) (by kernel_rfl) ?_); simp [-getElem?_pos, z0, z1, z2, r1, r2]) | ((first | refine AWi.ret ?_ | refine AWi.skip ?_ | refine AWi.exit ?_); try simp only [thenP]) | (with_reducible refine BB.go ?_; simp only [blockP, thenP, reduceIte]) | (with_reducible refine And.intro (okLog_c (by simp [footOf, guardSlot, slotsOf, idsRead, looks, idsOf, idsOf1, idsWritten, colF]; kernel_rfl)) ?_))
          rw [wh_by hv] at k9
          exact RI.ret rfl ⟨by omega, fun j hj => (k8 j (by omega) (by omega)).trans ((r6 j (by omega)).trans (k2 j (by omega))), .inr ⟨ht, k, by omega, by omega, rfl, k9⟩⟩
    · have ht : truthErr l v = 15 := by simp [truthErr, h0, hv]
      have hv' : ¬ (v.length : Int) = l.length := by omega
      refine cwpK tabOk Try.func49 rfl rfl (show 2 ≤ _ by decide) rfl fun _ => ?_; simp only [Try.ntmps49]
      repeat (first | (with_reducible first | refine AWi.seqK fun _ => ?_ | refine AWi.blockK fun _ => ?_ | refine KI.go ?_) | ((first | refine AWi.region tabOk ?_ | refine AWi.condK fun _ _ => ?_ | refine AWi.draws tabOk rfl (by kernel_rfl) (by kernel_rfl) ?_); simp [-getElem?_pos, z0, z1, z2, z0]) | ((first | refine AWi.ret ?_ | refine AWi.skip ?_ | refine AWi.exit ?_); try simp only [thenP]) | (with_reducible refine BB.go ?_; simp only [blockP, thenP, reduceIte]) | (with_reducible refine And.intro (okLog_c (by simp [footOf, guardSlot, slotsOf, idsRead, looks, idsOf, idsOf1, idsWritten, colF]; kernel_rfl)) ?_))
      refine ExecI.callC (cw _ _) rfl (by simp [calleeS, evList]) ?_
      rintro y n1 m1 ⟨k1, k2, ⟨h, _⟩ | ⟨_, k, k3, k4, rfl, k5⟩⟩
      · exact absurd h0 h
      simp
      repeat (first | (with_reducible first | refine AWi.seqK fun _ => ?_ | refine AWi.blockK fun _ => ?_ | refine KI.go ?_) | ((first | refine AWi.region tabOk ?_ | refine AWi.condK fun _ _ => ?_ | refine AWi.draws tabOk rfl (by kernel_rfl) (by kernel_rfl) ?_); simp [-getElem?_pos, z0, z1, z2, hv, hv']) | ((first | refine AWi.ret ?_ | refine AWi.skip ?_ | refine AWi.exit ?_); try simp only [thenP]) | (with_reducible refine BB.go ?_; simp only [blockP, thenP, reduceIte]) | (with_reducible refine And.intro (okLog_c (by simp [footOf, guardSlot, slotsOf, idsRead, looks, idsOf, idsOf1, idsWritten, colF]; kernel_rfl)) ?_))
      exact RI.ret rfl ⟨by omega, fun j hj => k2 j (by omega), .inl ⟨by rw [ht]; decide, by rw [ht]; rfl⟩⟩
  · have ht : truthErr l v = pairErr l := by simp [truthErr, h0]
    refine cwpK tabOk Try.func49 rfl rfl (show 2 ≤ _ by decide) rfl fun _ => ?_; simp only [Try.ntmps49]
    repeat (first | (with_reducible first | refine AWi.seqK fun _ => ?_ | refine AWi.blockK fun _ => ?_ | refine KI.go ?_) | ((first | refine AWi.region tabOk ?_ | refine AWi.condK fun _ _ => ?_ | refine AWi.draws tabOk rfl (by kernel_rfl) (by kernel_rfl) ?_); simp [-getElem?_pos, z0, z1, z2, z0]) | ((first | refine AWi.ret ?_ | refine AWi.skip ?_ | refine AWi.exit ?_); try simp only [thenP]) | (with_reducible refine BB.go ?_; simp only [blockP, thenP, reduceIte]) | (with_reducible refine And.intro (okLog_c (by simp [footOf, guardSlot, slotsOf, idsRead, looks, idsOf, idsOf1, idsWritten, colF]; kernel_rfl)) ?_))
    refine ExecI.callC (cw _ _) rfl (by simp [calleeS, evList]) ?_
    rintro y n1 m1 ⟨k1, k2, ⟨_, rfl⟩ | ⟨h, _⟩⟩
    · simp
      repeat (first | (with_reducible first | refine AWi.seqK fun _ => ?_ | refine AWi.blockK fun _ => ?_ | refine KI.go ?_) | ((first | refine AWi.region tabOk ?_ | refine AWi.condK fun _ _ => ?_ | refine AWi.draws tabOk rfl (by kernel_rfl) (by kernel_rfl) ?_); simp [-getElem?_pos, z0, z1, z2, h0]) | ((first | refine AWi.ret ?_ | refine AWi.skip ?_ | refine AWi.exit ?_); try simp only [thenP]) | (with_reducible refine BB.go ?_; simp only [blockP, thenP, reduceIte]) | (with_reducible refine And.intro (okLog_c (by simp [footOf, guardSlot, slotsOf, idsRead, looks, idsOf, idsOf1, idsWritten, colF]; kernel_rfl)) ?_))
      exact RI.ret rfl ⟨by omega, fun j hj => k2 j (by omega), .inl ⟨by rw [ht]; exact h0, by rw [ht]; rfl⟩⟩
    · exact absurd h h0
end Go.Proofs.Ytjjoiihgpkhndaa.Eng


noncomputable section
namespace Go.Proofs.Ytjjoiihgpkhndaa.Eng
open Go.RowKit
theorem okAt_of {l : List CSt} (h : pairErr l = 0) {i : Nat} (hi : i < l.length) : okAt l i = true := by
  unfold pairErr at h
  split at h
  · cases h
  · split at h
    · rename_i h2
      exact List.all_eq_true.1 h2 i (List.mem_range.2 hi)
    · cases h
theorem stn_of {l : List CSt} (h : pairErr l = 0) {i : Nat} {t : CSt} (ht : l[i]? = some t) : stnC t = true := by
  have h1 := okAt_of h (List.getElem?_eq_some_iff.1 ht).1
  unfold okAt at h1
  simp only [ht, Bool.and_eq_true] at h1
  exact h1.1
theorem at_next {l : List CSt} (h : pairErr l = 0) {i : Nat} {a b : CSt} (ha : l[i]? = some a) (hb : l[i + 1]? = some b) : a.at_ < b.at_ := by
  have h1 := okAt_of h (List.getElem?_eq_some_iff.1 hb).1
  unfold okAt at h1
  simp only [ha, hb, Bool.and_eq_true, decide_eq_true_eq] at h1
  exact h1.2
theorem at_lt {l : List CSt} (h : pairErr l = 0) {i : Nat} {a : CSt} (ha : l[i]? = some a) : ∀ (j : Nat) {b : CSt}, l[j]? = some b → i < j → a.at_ < b.at_
  | 0, _, _, hij => by omega
  | j + 1, b, hb, hij => by
    by_cases e : i = j
    · subst e; exact at_next h ha hb
    · have hj : j < l.length := by have := (List.getElem?_eq_some_iff.1 hb).1; omega
      have hc : l[j]? = some l[j] := List.getElem?_eq_getElem hj
      have h1 := at_lt h ha j hc (by omega)
      have h2 := at_next h hc hb
      omega
theorem spot_is {l : List CSt} {i : Nat} {q : Spot} (h : (spots l)[i]? = some q) : ∃ t, l[i]? = some t ∧ q = ⟨t.at_, t.lo, t.hi, i⟩ := by
  have hi : i < l.length := by have := (List.getElem?_eq_some_iff.1 h).1; simpa using this
  have hc : l[i]? = some l[i] := List.getElem?_eq_getElem hi
  rw [spots_get hc] at h
  cases h
  exact ⟨_, hc, rfl⟩
theorem spot_at_lt {l : List CSt} (h : pairErr l = 0) {i j : Nat} {a b : Spot} (ha : (spots l)[i]? = some a) (hb : (spots l)[j]? = some b) (hij : i < j) : a.at_ < b.at_ := by
  obtain ⟨t, h1, rfl⟩ := spot_is ha
  obtain ⟨u, h2, rfl⟩ := spot_is hb
  exact at_lt h h1 j h2 hij
theorem apart {l : List CSt} (h : pairErr l = 0) {s : Spot} (hs : (spots l)[s.name.toNat]? = some s) (q : Spot) (hq : q ∈ before (spots l) s ∨ q ∈ behindS (spots l) s) : q.at_ ≠ s.at_ := by
  rcases hq with hq | hq
  · obtain ⟨i, hi⟩ := List.getElem?_of_mem hq
    unfold before at hi
    rw [List.getElem?_take] at hi
    split at hi
    · have := spot_at_lt h hi hs (by omega); omega
    · cases hi
  · obtain ⟨i, hi⟩ := List.getElem?_of_mem hq
    unfold behindS at hi
    rw [List.getElem?_drop] at hi
    have := spot_at_lt h hs hi (by omega); omega
theorem spotsOk {l : List CSt} {v : List Int} (h : pairErr l = 0) (hv : v.length = l.length) (ht : trOk l v l.length = true) (q : Spot) (hq : q ∈ spots l) : SpotOk v q := by
  obtain ⟨i, hi⟩ := List.getElem?_of_mem hq
  obtain ⟨t, h1, e⟩ := spot_is hi
  have hil := (List.getElem?_eq_some_iff.1 h1).1
  have hc := (stnC_iff t).1 (stn_of h h1)
  have h2 : fromK q.lo q.hi [(v[q.name.toNat]?).getD 0] = true := List.all_eq_true.1 ht q (by rw [List.take_of_length_le (by simp)]; exact hq)
  have hvi : v[i]? = some v[i] := List.getElem?_eq_getElem (by omega)
  subst e
  simp only [Int.toNat_natCast, hvi, Option.getD_some, fromK, inK, List.all_cons, List.all_nil, Bool.and_true, decide_eq_true_eq] at h2
  exact ⟨by simp, hc.1, v[i], by simp [hvi], by omega, by omega⟩
theorem truth_of {l : List CSt} {v : List Int} (h : truthErr l v = 0) : pairErr l = 0 ∧ v.length = l.length ∧ trOk l v l.length = true := by
  unfold truthErr at h
  split at h
  · split at h
    · split at h
      · exact ⟨by assumption, by assumption, by assumption⟩
      · cases h
    · cases h
  · exact absurd h (by assumption)
def tiltsE (l : List CSt) (v : List Int) (i : Int) : Int := if truthErr l v = 0 then (match if 0 ≤ i then (spots l)[i.toNat]? else none with | some s => if lessQ (tiltHi v (spots l) s) (tiltLo v (spots l) s) = true then 22 else 0 | none => 3) else truthErr l v
def tiltsQ (l : List CSt) (v : List Int) (i : Int) : (Int × Int) × (Int × Int) := if tiltsE l v i = 0 then (match (spots l)[i.toNat]? with | some s => (tiltLo v (spots l) s, tiltHi v (spots l) s) | none => ((0, 0), (0, 0))) else ((0, 0), (0, 0))
set_option maxRecDepth 100000 in
set_option maxHeartbeats 8000000 in
theorem tilts_c (l : List CSt) (v : List Int) (i : Int) (n : Nat) (m : Mem) : CWp Try.prog 17 [.d (pairD l), .d (intL v), .d (iD i)] n m fun y n' m' => n ≤ n' ∧ (∀ j, j < n → m' j = m j) ∧ y = .tup [spanV (tiltsQ l v i).1 (tiltsQ l v i).2, .d (iD (tiltsE l v i))] := by
  have cw := checkTruth_w l v
  by_cases h0 : truthErr l v = 0
  · obtain ⟨p1, p2, p3⟩ := truth_of h0
    have hl : l.length ≤ 25 := by
      unfold pairErr at p1
      split at p1
      · cases p1
      · omega
    refine cwpK tabOk Try.func17 rfl rfl (show 3 ≤ _ by decide) rfl fun _ => ?_; simp only [Try.ntmps17]
    repeat (first | (with_reducible first | refine AWi.seqK fun _ => ?_ | refine AWi.blockK fun _ => ?_ | refine KI.go ?_) | ((first | refine AWi.region tabOk ?_ | refine AWi.condK fun _ _ => ?_ | refine AWi.draws tabOk rfl (by kernel_rfl) (by kernel_rfl) ?_); simp [-getElem?_pos, z0, z1, z2, z0]) | ((first | refine AWi.ret ?_ | refine AWi.skip ?_ | refine AWi.exit ?_); try simp only [thenP]) | (with_reducible refine BB.go ?_; simp only [blockP, thenP, reduceIte]) | (with_reducible refine And.intro (okLog_c (by simp [footOf, guardSlot, slotsOf, idsRead, looks, idsOf, idsOf1, idsWritten, colF]; kernel_rfl)) ?_))
    refine ExecI.callC (cw _ _) rfl (by simp [calleeS, evList]) ?_
    rintro y n1 m1 ⟨k1, k2, ⟨h, _⟩ | ⟨_, k, k3, k4, rfl, k5⟩⟩
    · exact absurd h0 h
    have b1 := k2 n (by omega)
    simp at b1
    simp
    repeat (first | (with_reducible first | refine AWi.seqK fun _ => ?_ | refine AWi.blockK fun _ => ?_ | refine KI.go ?_) | ((first | refine AWi.region tabOk ?_ | refine AWi.condK fun _ _ => ?_ | refine AWi.draws tabOk rfl (by kernel_rfl) (by kernel_rfl) ?_); simp [-getElem?_pos, z0, z1, z2, b1]) | ((first | refine AWi.ret ?_ | refine AWi.skip ?_ | refine AWi.exit ?_); try simp only [thenP]) | (with_reducible refine BB.go ?_; simp only [blockP, thenP, reduceIte]) | (with_reducible refine And.intro (okLog_c (by simp [footOf, guardSlot, slotsOf, idsRead, looks, idsOf, idsOf1, idsWritten, colF]; kernel_rfl)) ?_))
    refine ExecI.callC (spot_w k5 i _ (by omega)) rfl (by simp [calleeS, evList]) ?_
    rintro y n2 m2 ⟨j1, j2, ⟨g, s, rfl⟩ | ⟨s, g1, g2, rfl⟩⟩
    · have b2 := (j2 n (by omega)).trans b1
      have en : ¬ n = n2 + 1 + 1 + 1 := by omega
      have he : tiltsE l v i = 3 := by
        unfold tiltsE
        rw [if_pos h0]
        by_cases g0 : 0 ≤ i
        · rw [if_pos g0, List.getElem?_eq_none (by simp; omega)]
        · rw [if_neg g0]
      have hq : tiltsQ l v i = ((0, 0), (0, 0)) := by unfold tiltsQ; rw [he]; rfl
      simp [spotV]
      repeat (first | (with_reducible first | refine AWi.seqK fun _ => ?_ | refine AWi.blockK fun _ => ?_ | refine KI.go ?_) | ((first | refine AWi.region tabOk ?_ | refine AWi.condK fun _ _ => ?_ | refine AWi.draws tabOk rfl (by kernel_rfl) (by kernel_rfl) ?_); simp [-getElem?_pos, z0, z1, z2, b2, en]) | ((first | refine AWi.ret ?_ | refine AWi.skip ?_ | refine AWi.exit ?_); try simp only [thenP]) | (with_reducible refine BB.go ?_; simp only [blockP, thenP, reduceIte]) | (with_reducible refine And.intro (okLog_c (by simp [footOf, guardSlot, slotsOf, idsRead, looks, idsOf, idsOf1, idsWritten, colF]; kernel_rfl)) ?_))
      refine RI.ret (xs := [spanV (0, 0) (0, 0), .d (iD 3)]) (by simp [Try.results17, resSlots, resSlot, spanV]) ?_
      rw [he, hq]
      exact ⟨by omega, fun j hj => by simp [show ¬ j = n by omega, show ¬ j = n2 + 1 + 1 + 1 by omega]; rw [j2 j (by omega), k2 j (by omega)]; simp [show ¬ j = n by omega], rfl⟩
    · have b2 := (j2 n (by omega)).trans b1
      have en : ¬ n = n2 + 1 + 1 + 1 := by omega
      have ek : ¬ k = n2 + 1 + 1 + 1 := by omega
      have k6 : m2 k = some (pairM l (wh v)) := (j2 k (by omega)).trans k5
      have sn := spots_name g2
      have gs : (spots l)[s.name.toNat]? = some s := by rw [sn, show ((i.toNat : Int)).toNat = i.toNat by omega]; exact g2
      simp [spotV]
      repeat (first | (with_reducible first | refine AWi.seqK fun _ => ?_ | refine AWi.blockK fun _ => ?_ | refine KI.go ?_) | ((first | refine AWi.region tabOk ?_ | refine AWi.condK fun _ _ => ?_ | refine AWi.draws tabOk rfl (by kernel_rfl) (by kernel_rfl) ?_); simp [-getElem?_pos, z0, z1, z2, b2, en]) | ((first | refine AWi.ret ?_ | refine AWi.skip ?_ | refine AWi.exit ?_); try simp only [thenP]) | (with_reducible refine BB.go ?_; simp only [blockP, thenP, reduceIte]) | (with_reducible refine And.intro (okLog_c (by simp [footOf, guardSlot, slotsOf, idsRead, looks, idsOf, idsOf1, idsWritten, colF]; kernel_rfl)) ?_))
      refine ExecI.callC (tilts_w (l := l) (k := k) (v := v) (s := s) (by simp [ek]; exact k6) (by omega) hl (by omega) gs (spotsOk p1 p2 p3) (apart p1 gs) _ (by omega)) rfl (by simp [calleeS, evList, spotV]) ?_
      rintro y n3 m3 ⟨l1, l2, rfl⟩
      have b3 := (l2 n (by omega))
      simp [en, b2] at b3
      by_cases hx : lessQ (tiltHi v (spots l) s) (tiltLo v (spots l) s) = true
      · have he : tiltsE l v i = 22 := by
          unfold tiltsE
          rw [if_pos h0, if_pos g1, g2]
          exact if_pos hx
        have hq : tiltsQ l v i = ((0, 0), (0, 0)) := by unfold tiltsQ; rw [he]; rfl
        simp [-getElem?_pos, z0, z1, z2, hx, spanV, b3]
        repeat (first | (with_reducible first | refine AWi.seqK fun _ => ?_ | refine AWi.blockK fun _ => ?_ | refine KI.go ?_) | ((first | refine AWi.region tabOk ?_ | refine AWi.condK fun _ _ => ?_ | refine AWi.draws tabOk rfl (by kernel_rfl) (by kernel_rfl) ?_); simp [-getElem?_pos, z0, z1, z2, b3]) | ((first | refine AWi.ret ?_ | refine AWi.skip ?_ | refine AWi.exit ?_); try simp only [thenP]) | (with_reducible refine BB.go ?_; simp only [blockP, thenP, reduceIte]) | (with_reducible refine And.intro (okLog_c (by simp [footOf, guardSlot, slotsOf, idsRead, looks, idsOf, idsOf1, idsWritten, colF]; kernel_rfl)) ?_))
        refine RI.ret (xs := [spanV (0, 0) (0, 0), .d (iD 22)]) (by simp [Try.results17, resSlots, resSlot, spanV]) ?_
        rw [he, hq]
        exact ⟨by omega, fun j hj => by simp [show ¬ j = n by omega]; rw [l2 j (by omega)]; simp [show ¬ j = n2 + 1 + 1 + 1 by omega]; rw [j2 j (by omega), k2 j (by omega)]; simp [show ¬ j = n by omega], rfl⟩
      · have he : tiltsE l v i = 0 := by
          unfold tiltsE
          rw [if_pos h0, if_pos g1, g2]
          exact if_neg hx
        have hq : tiltsQ l v i = (tiltLo v (spots l) s, tiltHi v (spots l) s) := by unfold tiltsQ; rw [he, g2]; rfl
        simp [-getElem?_pos, z0, z1, z2, hx, spanV, b3]
        repeat (first | (with_reducible first | refine AWi.seqK fun _ => ?_ | refine AWi.blockK fun _ => ?_ | refine KI.go ?_) | ((first | refine AWi.region tabOk ?_ | refine AWi.condK fun _ _ => ?_ | refine AWi.draws tabOk rfl (by kernel_rfl) (by kernel_rfl) ?_); simp [-getElem?_pos, z0, z1, z2, b3]) | ((first | refine AWi.ret ?_ | refine AWi.skip ?_ | refine AWi.exit ?_); try simp only [thenP]) | (with_reducible refine BB.go ?_; simp only [blockP, thenP, reduceIte]) | (with_reducible refine And.intro (okLog_c (by simp [footOf, guardSlot, slotsOf, idsRead, looks, idsOf, idsOf1, idsWritten, colF]; kernel_rfl)) ?_))
        refine RI.ret (xs := [spanV (tiltLo v (spots l) s) (tiltHi v (spots l) s), .d (iD 0)]) (by simp [Try.results17, resSlots, resSlot, spanV]) ?_
        rw [he, hq]
        exact ⟨by omega, fun j hj => by simp [show ¬ j = n by omega]; rw [l2 j (by omega)]; simp [show ¬ j = n2 + 1 + 1 + 1 by omega]; rw [j2 j (by omega), k2 j (by omega)]; simp [show ¬ j = n by omega], rfl⟩
  · refine cwpK tabOk Try.func17 rfl rfl (show 3 ≤ _ by decide) rfl fun _ => ?_; simp only [Try.ntmps17]
    repeat (first | (with_reducible first | refine AWi.seqK fun _ => ?_ | refine AWi.blockK fun _ => ?_ | refine KI.go ?_) | ((first | refine AWi.region tabOk ?_ | refine AWi.condK fun _ _ => ?_ | refine AWi.draws tabOk rfl (by kernel_rfl) (by kernel_rfl) ?_); simp [-getElem?_pos, z0, z1, z2, z0]) | ((first | refine AWi.ret ?_ | refine AWi.skip ?_ | refine AWi.exit ?_); try simp only [thenP]) | (with_reducible refine BB.go ?_; simp only [blockP, thenP, reduceIte]) | (with_reducible refine And.intro (okLog_c (by simp [footOf, guardSlot, slotsOf, idsRead, looks, idsOf, idsOf1, idsWritten, colF]; kernel_rfl)) ?_))
    refine ExecI.callC (cw _ _) rfl (by simp [calleeS, evList]) ?_
    rintro y n1 m1 ⟨k1, k2, ⟨_, rfl⟩ | ⟨h, _⟩⟩
    · have b1 := k2 n (by omega)
      simp at b1
      have he : tiltsE l v i = truthErr l v := by unfold tiltsE; rw [if_neg h0]
      have hq : tiltsQ l v i = ((0, 0), (0, 0)) := by unfold tiltsQ; rw [he, if_neg h0]
      simp
      repeat (first | (with_reducible first | refine AWi.seqK fun _ => ?_ | refine AWi.blockK fun _ => ?_ | refine KI.go ?_) | ((first | refine AWi.region tabOk ?_ | refine AWi.condK fun _ _ => ?_ | refine AWi.draws tabOk rfl (by kernel_rfl) (by kernel_rfl) ?_); simp [-getElem?_pos, z0, z1, z2, h0, b1]) | ((first | refine AWi.ret ?_ | refine AWi.skip ?_ | refine AWi.exit ?_); try simp only [thenP]) | (with_reducible refine BB.go ?_; simp only [blockP, thenP, reduceIte]) | (with_reducible refine And.intro (okLog_c (by simp [footOf, guardSlot, slotsOf, idsRead, looks, idsOf, idsOf1, idsWritten, colF]; kernel_rfl)) ?_))
      refine RI.ret (xs := [spanV (0, 0) (0, 0), .d (iD (truthErr l v))]) (by simp [Try.results17, resSlots, resSlot, spanV]) ?_
      rw [he, hq]
      exact ⟨by omega, fun j hj => by simp [show ¬ j = n by omega]; rw [k2 j (by omega)]; simp [show ¬ j = n by omega], rfl⟩
    · exact absurd h h0
end Go.Proofs.Ytjjoiihgpkhndaa.Eng
