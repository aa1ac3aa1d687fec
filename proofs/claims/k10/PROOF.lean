import PyProof.Rows.All
import Wide.All
import OpenK.AllK
import Wide.FinOn
import HandS.ForMost
import HandS.Wide
import HandS.Gcd
import HandS.IsInst
import HandS.Codes
import HandS.Zip
import HandS.Walk
import PyProof.WalksMore
import PyProof.ConsumeWalk
import KE.GoesMore
import KE.GoesEnum
import KE.GoesZip
import HandS.TupMul
import HandS.TupAny
import HandS.Exc
import HandS.TryOnly
import HandS.ExcOwn
import HandS.WordsExc
import HandS.ExcIs
import PySem.Challenge.RW_hullwright_k10_functions_of_points
set_option Elab.async false
set_option linter.all false
set_option maxRecDepth 100000
set_option maxHeartbeats 4000000

namespace Hw
/-- Euclid's loop, by its turn -/
def Fit (i A B : Nat) : Prop := (i = 0 ∧ A * B < 2 ^ 598) ∨ (1 ≤ i ∧ B < A ∧ A * B * 2 ^ (i - 1) < 2 ^ 598)
theorem fit0 {A B : Nat} (ha : A < 2 ^ 299) (hb : B < 2 ^ 299) : Fit 0 A B := by
  refine .inl ⟨rfl, ?_⟩
  have h : A * B < 2 ^ 299 * 2 ^ 299 := Nat.mul_lt_mul'' ha hb
  rwa [← Nat.pow_add] at h
theorem fit_step {i A B : Nat} (h : Fit i A B) (hb : B ≠ 0) : Fit (i + 1) B (A % B) := by
  have hr : A % B < B := Nat.mod_lt _ (Nat.pos_of_ne_zero hb)
  refine .inr ⟨by omega, hr, ?_⟩
  rcases h with ⟨rfl, h⟩ | ⟨hi, hlt, h⟩
  · have h1 : B * (A % B) ≤ B * A := Nat.mul_le_mul_left _ (Nat.mod_le _ _)
    rw [Nat.mul_comm B A] at h1
    show B * (A % B) * 2 ^ 0 < 2 ^ 598
    rw [Nat.pow_zero, Nat.mul_one]
    omega
  · obtain ⟨j, rfl⟩ : ∃ j, i = j + 1 := ⟨i - 1, by omega⟩
    show B * (A % B) * 2 ^ (j + 1) < 2 ^ 598
    have h2 : 2 * (A % B) ≤ A := by
      have e : B * (A / B) + A % B = A := Nat.div_add_mod A B
      have q : 1 ≤ A / B := Nat.div_pos (Nat.le_of_lt hlt) (Nat.pos_of_ne_zero hb)
      have m : B * 1 ≤ B * (A / B) := Nat.mul_le_mul_left _ q
      omega
    have h3 : B * (2 * (A % B)) ≤ B * A := Nat.mul_le_mul_left _ h2
    have h4 : B * (A % B) * 2 ^ (j + 1) = B * (2 * (A % B)) * 2 ^ j := by
      rw [Nat.pow_succ]
      simp only [Nat.mul_assoc, Nat.mul_left_comm, Nat.mul_comm]
    rw [h4]
    refine Nat.lt_of_le_of_lt (Nat.mul_le_mul_right _ h3) ?_
    rw [Nat.mul_comm B A]
    exact h
theorem fit_end {A B : Nat} (h : Fit 600 A B) : B = 0 := by
  rcases h with ⟨h, _⟩ | ⟨_, hlt, h⟩
  · omega
  · by_cases hb : B = 0
    · exact hb
    · exfalso
      have h1 : 1 ≤ A * B := Nat.mul_pos (by omega) (by omega)
      have h2 : 1 * 2 ^ (600 - 1) ≤ A * B * 2 ^ (600 - 1) := Nat.mul_le_mul_right _ h1
      have h3 : (2 : Nat) ^ 598 < 2 ^ (600 - 1) := Nat.pow_lt_pow_right (by decide) (by decide)
      omega
theorem gcd_turn (A B : Nat) : Nat.gcd B (A % B) = Nat.gcd A B := by
  rw [Nat.gcd_comm B, ← Nat.gcd_rec, Nat.gcd_comm]
/-- the greatest common divisor, an int -/
def g2 (a b : Int) : Int := ((Nat.gcd a.natAbs b.natAbs : Nat) : Int)
theorem g2_pos {a b : Int} (hb : b ≠ 0) : 0 < g2 a b := by
  unfold g2
  have : 0 < Nat.gcd a.natAbs b.natAbs := Nat.gcd_pos_of_pos_right _ (by omega)
  omega
theorem g2_nn0 (a b : Int) : 0 ≤ g2 a b := by
  unfold g2
  omega
theorem g2_le {a b : Int} (hb : b ≠ 0) : (g2 a b).natAbs ≤ b.natAbs := by
  unfold g2
  have : Nat.gcd a.natAbs b.natAbs ≤ b.natAbs := Nat.gcd_le_right _ (by omega)
  omega
/-- a fraction's two entries, b > 0 -/
def frN (a b : Int) : Int := a / g2 a b
def frD (a b : Int) : Int := b / g2 a b
theorem g2_dvd_l (a b : Int) : g2 a b ∣ a := by
  unfold g2
  exact Int.ofNat_dvd_left.mpr (Nat.gcd_dvd_left _ _)
theorem g2_dvd_r (a b : Int) : g2 a b ∣ b := by
  unfold g2
  exact Int.ofNat_dvd_left.mpr (Nat.gcd_dvd_right _ _)
theorem frD_pos {a b : Int} (hb : 0 < b) : 0 < frD a b := by
  have g := g2_pos (a := a) (b := b) (by omega)
  exact Int.ediv_pos_of_pos_of_dvd hb (Int.le_of_lt g) (g2_dvd_r a b)
theorem ediv_abs {a g : Int} (hg : 0 < g) : (a / g).natAbs ≤ a.natAbs := by
  have h1 := Int.mul_ediv_self_le (x := a) (k := g) (by omega)
  have h2 := Int.lt_mul_ediv_self_add (x := a) (k := g) hg
  generalize hq : a / g = q at *
  by_cases c : 0 ≤ q
  · have : 1 * q ≤ g * q := Int.mul_le_mul_of_nonneg_right (by omega) c
    omega
  · have h3 : g * q ≤ g * (-1) + (q + 1) := by
      have : g * (q + 1) ≤ 1 * (q + 1) := Int.mul_le_mul_of_nonpos_right (by omega) (by omega)
      rw [Int.mul_add, Int.mul_one, Int.one_mul] at this
      omega
    omega
theorem frN_abs {a b : Int} (hb : b ≠ 0) : (frN a b).natAbs ≤ a.natAbs := ediv_abs (g2_pos hb)
theorem frD_abs {a b : Int} (hb : b ≠ 0) : (frD a b).natAbs ≤ b.natAbs := ediv_abs (g2_pos hb)
theorem mul_pow {x y : Int} {a b : Nat} (ha : x.natAbs < 2 ^ a) (hb : y.natAbs < 2 ^ b) : (x * y).natAbs < 2 ^ (a + b) := by
  rw [Int.natAbs_mul, Nat.pow_add]
  exact Nat.mul_lt_mul'' ha hb
theorem add_pow {x y : Int} {a : Nat} (ha : x.natAbs < 2 ^ a) (hb : y.natAbs < 2 ^ a) : (x + y).natAbs < 2 ^ (a + 1) := by
  rw [Nat.pow_succ]
  omega
theorem sub_pow {x y : Int} {a : Nat} (ha : x.natAbs < 2 ^ a) (hb : y.natAbs < 2 ^ a) : (x - y).natAbs < 2 ^ (a + 1) := by
  rw [Nat.pow_succ]
  omega
theorem up_pow {x : Nat} {a b : Nat} (h : x < 2 ^ a) (l : a ≤ b) : x < 2 ^ b := Nat.lt_of_lt_of_le h (Nat.pow_le_pow_right (by decide) l)
/-- the sign of an int -/
def sg (a : Int) : Int := if 0 < a then 1 else if a < 0 then -1 else 0
theorem sg_frN {a b : Int} (hb : b ≠ 0) : sg (frN a b) = sg a := by
  have g := g2_pos (a := a) hb
  obtain ⟨c, hc⟩ := g2_dvd_l a b
  have e : frN a b = c := by
    unfold frN
    generalize g2 a b = k at *
    subst hc
    exact Int.mul_ediv_cancel_left _ (by omega)
  rw [e]
  generalize g2 a b = k at *
  subst hc
  unfold sg
  have p1 : 0 < k * c ↔ 0 < c := ⟨fun h => Int.pos_of_mul_pos_right h (by omega), fun h => Int.mul_pos g h⟩
  have p2 : k * c < 0 ↔ c < 0 := by
    constructor
    · intro h
      by_cases q : c < 0
      · exact q
      · have := Int.mul_nonneg (Int.le_of_lt g) (show 0 ≤ c by omega)
        omega
    · intro h
      exact Int.mul_neg_of_pos_of_neg g h
  simp only [p1, p2]
end Hw

/-! ### operations that the layer lacks -/
namespace HwG
open PySem PySem.Spec PyProof.Rows L2 RZ
theorem tuple_mul1 (l : Addr) (items : Array Value) (n : Nat) (dd : Option Addr) (sl : Array (Option Value)) (x : Int) (u : Tok) (c0 : (decide (x < -(2 ^ 63)) || decide (x ≥ 2 ^ 63)) = false) (c1 : (items.isEmpty || x == 1) = true) :
    Meets (Builtin.«tuple.__mul__» ⟨[.ref l, .int x u], []⟩) (fun _ R s => s.heap.get? l = some { cls := .type "tuple", dict := dd, data := .seq items n, slots := sl } ∧
      R (.ok (.ret (Value.ref l))) s) :=
  .of_wp fun prog w A R s h => by
    obtain ⟨hp, g, d, tk, os⟩ := s
    obtain ⟨hl, h⟩ := h
    have f1 := AutoSeq1.idx_int
    wp_walk using wpAny_loadPart' hl
    repeat (first
      | (refine wpAny_ite_false (decide_eq_false (by rw [c0]; exact Bool.false_ne_true)) ?_; wp_walk using wpAny_loadPart' hl)
      | (refine wpAny_ite_true (decide_eq_true c1) ?_; wp_walk using wpAny_loadPart' hl))
    exact ⟨_, rfl, h⟩
def rRepT1 (K : PySem.W.Frag) : R2 := fun x y H Q => ∃ l xs, x = .ref l ∧ y = .int 1 ∧ SqT K H l xs ∧ Q (.ref l) H
section
variable {X : Cx}
theorem op_repT1 : OpR X (binaryOp .Mult) (rRepT1 X.K) := by
  intro pins s σ H x y v u Q I rx ry h
  obtain ⟨l, xs, rfl, rfl, hT, q⟩ := h
  cases rx
  obtain ⟨t, rfl⟩ := ry
  obtain ⟨its, r, ⟨⟨cls, dd, data, sl⟩, ho, hc, n, hd⟩, hs⟩ := I.tuple hT
  simp only at hc hd
  subst hc hd
  have c0 : (decide ((1 : Int) < -(2 ^ 63)) || decide ((1 : Int) ≥ 2 ^ 63)) = false := by decide
  have c1 : (its.toArray.isEmpty || (1 : Int) == 1) = true := by
    rw [show ((1 : Int) == 1) = true by decide, Bool.or_true]
  exact wpAny_binaryOp_repeat_ref (T := "tuple") (U := "int") (by decide) ⟨_, ho, rfl⟩ (fun s' => typeIs_int s' 1 t) noFill_tuple_mul F.fills_int_mul F.slot_int_rmul repeat_tuple F.slot_int_index.lookup
    (call_meets F.slot_int_rmul (typeIs_int s 1 t) F.entry_int_rmul (F.args_int_rmul_2 _ _) (int_rmul_tuple 1 t l its.toArray n dd sl)
      ⟨ho, rfl, ⟨_, ho, rfl⟩, call_meets F.slot_tuple_mul ⟨_, ho, rfl⟩ F.entry_tuple_mul (F.args_tuple_mul_2 _ _) (tuple_mul1 l its.toArray n dd sl 1 t c0 c1) ⟨ho, .ref l, H, I, rfl, q⟩⟩)
def rRepA (K : PySem.W.Frag) : R2 := fun x y H Q => rRepT K x y H Q ∨ rRepT1 K x y H Q
/-- a tuple times 1 .. 1000 -/
theorem op_repA : OpR X (binaryOp .Mult) (rRepA X.K) := by
  intro pins s σ H x y v u Q I rx ry q
  rcases q with q | q
  · exact op_repT pins s σ H x y v u Q I rx ry q
  · exact op_repT1 pins s σ H x y v u Q I rx ry q
/-- // by a divisor of any sign -/
def CDivA (_ j : Int) : Prop := j ≠ 0 ∧ j.natAbs.log2 < 9000
theorem op_fdivA : OpR X (binaryOp .FloorDiv) (rI CDivA fun i j => .int (i.fdiv j)) := opI fun i j _ _ _ _ _ hc q => floordiv_int hc.1 q (.inl (PyProof.noPylong_of_log2 hc.2))
end
/-- zip of two tuples, walked -/
theorem walk_zipT {K : PySem.W.Frag} {a b : Addr} {xs ys : List V} {n : Nat} (h1 : xs.length = n) (h2 : ys.length = n) : Walk (ItzT K a b) n (fun H => SqT K H a xs ∧ SqT K H b ys) (YPair (fun i => xs[i]?) (fun i => ys[i]?)) :=
  ⟨fun i H hi hG => ⟨xs, ys, xs[i], ys[i], hG.1, hG.2, List.getElem?_eq_getElem (by omega), List.getElem?_eq_getElem (by omega)⟩, fun H hG => ⟨xs, ys, hG.1, hG.2, .inl (by omega)⟩,
    fun i H x H' hi hG y => by
      obtain ⟨T, u, v, e1, e2, e3, e4, e5⟩ := y
      exact ⟨T, u, v, e1, e2, e3, e4 _ hG.1, e5 _ hG.2⟩⟩
end HwG

/-! ### zip of a list or tuple with a list or tuple -/
namespace HwZ
open PySem PySem.Spec PyProof.Rows L2 RZ
/-- at a stands a sequence: a tuple (true) or a list -/
def Sk (K : PySem.W.Frag) (k : Bool) (H : Hp) (a : Addr) (xs : List V) : Prop := match k with
  | true => SqT K H a xs
  | false => SqL K H a xs
def AtK (k : Bool) (h : Heap) (it a : Addr) (i : Nat) : Prop := match k with
  | true => h.IsTupleIter it a i
  | false => h.IsListIter it a i
def SeqK (k : Bool) (h : Heap) (a : Addr) (its : Array Value) : Prop := match k with
  | true => h.IsTuple a its
  | false => h.IsList a its
def begK (k : Bool) (a : Addr) : Obj := match k with
  | true => { cls := .type "tuple_iterator", data := .fields #[.ref a, .int 0 0] }
  | false => { cls := .type "list_iterator", data := .fields #[.ref a, .int 0 0] }
theorem drawsK (k : Bool) {prog : Program} {w : World} {A : Around} (hh : A.handled = none) (it a : Addr) (ne : a ≠ it) (its : Array Value) :
    Draws prog w A it [it, a] its.size (fun i v => its[i]? = some v) (fun i h => AtK k h it a i ∧ SeqK k h a its) := by
  cases k with
  | true => exact Draws.tuple hh it a ne its
  | false => exact Draws.list hh it a ne its
theorem beginsK (k : Bool) (a : Addr) (its : Array Value) : Begins (.ref a) (begK k a) fun h => SeqK k h a its := by
  cases k with
  | true => exact begins_tuple a its
  | false => exact begins_list a its
theorem atK_beg {k : Bool} {h : Heap} {it a : Addr} (e : h.get? it = some (begK k a)) : AtK k h it a 0 := by
  cases k with
  | true => exact ⟨_, e, rfl, rfl⟩
  | false => exact ⟨_, e, rfl, rfl⟩
theorem atK_at {k : Bool} {h h' : Heap} {it a : Addr} {i : Nat} (x : AtK k h it a i) (f : ∀ o, h.get? it = some o → h'.get? it = some o) : AtK k h' it a i := by
  cases k with
  | true => exact Heap.IsTupleIter.at x f
  | false => exact Heap.IsListIter.at x f
theorem atK_obj {k : Bool} {h : Heap} {it a : Addr} {i : Nat} (x : AtK k h it a i) : ∃ o, h.get? it = some o ∧ ∀ v, o.data ≠ .cell v := by
  cases k with
  | true =>
    obtain ⟨o, e, _, d⟩ := x
    exact ⟨o, e, fun v q => by rw [d] at q; cases q⟩
  | false =>
    obtain ⟨o, e, _, d⟩ := x
    exact ⟨o, e, fun v q => by rw [d] at q; cases q⟩
section
variable {X : Cx} {pins : List (Addr × Obj)} {σ : L2.St} {H : Hp} {s : Shared}
theorem sk_read {k : Bool} {a : Addr} {xs : List V} (I : Inv X pins σ H s) (h : Sk X.K k H a xs) : ∃ its : List Value, Vals xs its ∧ SeqK k s.heap a its.toArray := by
  cases k with
  | true =>
    obtain ⟨its, r, p, _⟩ := I.tuple h
    exact ⟨its, r, p⟩
  | false =>
    obtain ⟨its, r, p, _⟩ := I.list h
    exact ⟨its, r, p.isList⟩
theorem sk_inj {k : Bool} {a : Addr} {xs ys : List V} (I : Inv X pins σ H s) (h : Sk X.K k H a xs) (h' : Sk X.K k H a ys) : xs = ys := by
  cases k with
  | true => exact I.tuple_inj h h'
  | false => exact I.list_inj h h'
theorem seqK_lt {k : Bool} {h : Heap} {a : Addr} {its : Array Value} (x : SeqK k h a its) : a < h.objs.size := by
  cases k with
  | true =>
    obtain ⟨o, e, _⟩ := x
    exact Heap.lt_size e
  | false =>
    obtain ⟨o, e, _⟩ := x
    exact Heap.lt_size e
end
/-- what the loop sees: new pairs -/
def ItzK (K : PySem.W.Frag) (k1 k2 : Bool) (a b : Addr) : It :=
  ⟨fun i H => ∃ (xs ys : List V) (x y : V), Sk K k1 H a xs ∧ Sk K k2 H b ys ∧ xs[i]? = some x ∧ ys[i]? = some y,
    fun i H v H' => ∃ T x y, v = .ref T ∧ H T = none ∧ H' = upd H T (.tup [x, y]) ∧ (∀ xs, Sk K k1 H a xs → xs[i]? = some x) ∧ ∀ ys, Sk K k2 H b ys → ys[i]? = some y,
    fun i H => ∃ xs ys : List V, Sk K k1 H a xs ∧ Sk K k2 H b ys ∧ xs.length = i ∧ ys.length = i⟩
/-- the cells of the zip at z -/
structure Cells (z TI TO i1 i2 a b : Addr) : Prop where
  sep : ZipSep2 z TI TO i1 i2 [i1, a] [i2, b]
  ai : a ≠ i1
  bi : b ≠ i2
theorem cells_of (N a b : Nat) (ha : a < N) (hb : b < N) : Cells (N + 4) (N + 2) (N + 3) N (N + 1) a b :=
  ⟨zip_sep2 (fun c h => by rw [List.mem_singleton.mp h]; exact ha) (fun c h => by rw [List.mem_singleton.mp h]; exact hb), show a ≠ N by omega, show b ≠ N + 1 by omega⟩
def Now (k1 k2 : Bool) (z TI TO i1 i2 a b : Addr) (i : Nat) (h : Heap) : Prop := IsZip h z TI TO .none ∧ IsTupOf2 h TI (.ref i1) (.ref i2) ∧ (∃ u v, IsTupOf2 h TO u v) ∧ AtK k1 h i1 a i ∧ AtK k2 h i2 b i
theorem five {z TI TO i1 i2 c : Addr} (h : c ∈ [z, TI, TO, i1, i2]) : c = z ∨ c = TI ∨ c = TO ∨ c = i1 ∨ c = i2 := by simpa using h
theorem turn_zipK {P : Program} {w : World} {K : PySem.W.Frag} {elts : List Expr} {kk : Nat} {tpos : Pos} {k1 k2 : Bool} {a b z TI TO i1 i2 : Addr} (D : Cells z TI TO i1 i2 a b) :
    Turn P w K (.Tuple elts kk tpos) (ItzK K k1 k2 a b) [z, TI, TO, i1, i2] z (Now k1 k2 z TI TO i1 i2 a b) where
  mem := by simp
  obj := fun i h st c hc => by
    obtain ⟨hz, hT, ⟨u, v, hO⟩, h1, h2⟩ := st
    rcases five hc with e | e | e | e | e <;> subst e
    · exact ⟨_, hz, fun v q => nomatch q⟩
    · exact ⟨_, hT, fun v q => nomatch q⟩
    · exact ⟨_, hO, fun v q => nomatch q⟩
    · exact atK_obj h1
    · exact atK_obj h2
  keep := fun i h h' st f => by
    obtain ⟨hz, hT, ⟨u, v, hO⟩, h1, h2⟩ := st
    have g : ∀ c ∈ [z, TI, TO, i1, i2], ∀ o, h.get? c = some o → h'.get? c = some o := f
    exact ⟨g z (by simp) _ hz, g TI (by simp) _ hT, ⟨u, v, g TO (by simp) _ hO⟩, atK_at h1 (g i1 (by simp)), atK_at h2 (g i2 (by simp))⟩
  item := by
    intro X hP hw hK hc i pins s σ H E I hf st go
    subst hP hw hK
    obtain ⟨hz, hT, ⟨u0, v0, hO⟩, h1, h2⟩ := st
    obtain ⟨xs, ys, x, y, qx, qy, ex, ey⟩ := go
    obtain ⟨its, r1, p1⟩ := sk_read I qx
    obtain ⟨jts, r2, p2⟩ := sk_read I qy
    have n1 : i < its.toArray.size := by rw [List.size_toArray, ← r1.length]; exact (List.getElem?_eq_some_iff.mp ex).1
    have n2 : i < jts.toArray.size := by rw [List.size_toArray, ← r2.length]; exact (List.getElem?_eq_some_iff.mp ey).1
    have hd : X.A.in1.handled = none := I.ok.hd hc
    have zlt : z < s.heap.objs.size := Heap.lt_size hz
    refine wpAny_pyNext_zipD2_item D.sep (drawsK k1 hd i1 a D.ai its.toArray) (drawsK k2 hd i2 b D.bi jts.toArray) hz hT hO ⟨h1, p1⟩ ⟨h2, p2⟩ n1 n2 fun u v h' tk eu ev z' O' t1 t2 nT sz kp => ?_
    obtain ⟨u', gu, ru⟩ := r1.get ex
    obtain ⟨v', gv, rv⟩ := r2.get ey
    have euu : u = u' := Option.some.inj (eu.symm.trans (by simpa using gu))
    have evv : v = v' := Option.some.inj (ev.symm.trans (by simpa using gv))
    subst euu evv
    refine ⟨_, rfl, wpAny_letOwnedTupleGo_zip (s := { s with heap := h', toks := tk }) z' fun h2' z2 sb => ?_⟩
    have other : ∀ c, c ≠ z → h2'.get? c = h'.get? c := fun c hc => sb.2 c hc
    have fresh : h2'.get? s.heap.objs.size = some { cls := .type "tuple", data := .seq #[u, v] } := (other _ (Nat.ne_of_gt zlt)).trans nT
    have ob : ObjOk X.prog X.w (upd H s.heap.objs.size (.tup [x, y])) h2' s.heap.objs.size (.tup [x, y]) :=
      ⟨Nat.le_of_lt (small1000 (show 2 ≤ 1000 by decide)), [u, v], .cons ru (.cons rv .nil), ⟨_, fresh, rfl, _, rfl⟩⟩
    have J : Inv X pins σ (upd H s.heap.objs.size (.tup [x, y])) { s with heap := h2', toks := tk } :=
      I.turnedNew (ch := [z, TI, TO, i1, i2]) (fun c o nc q => by
        have m : c ≠ z ∧ c ≠ TO ∧ c ≠ i1 ∧ c ≠ i2 := ⟨fun e => nc (by rw [e]; simp), fun e => nc (by rw [e]; simp), fun e => nc (by rw [e]; simp), fun e => nc (by rw [e]; simp)⟩
        exact (other c m.1).trans (kp c o m.1 m.2.1 m.2.2.1 m.2.2.2 q)) hf (Nat.le_refl _) ob
    have hTI1 : TI ≠ i1 := D.sep.TIi1
    refine ⟨.ref s.heap.objs.size, _, J, rfl, ⟨_, x, y, rfl, I.hok.fresh (Nat.le_refl _), rfl, fun l hl => by rw [sk_inj I hl qx]; exact ex, fun l hl => by rw [sk_inj I hl qy]; exact ey⟩, ⟨z2, ?_, ⟨u, v, ?_⟩, ?_, ?_⟩, fun c hcm => ?_⟩
    · exact (other _ D.sep.TIz).trans (kp _ _ D.sep.TIz D.sep.TITO D.sep.TIi1 D.sep.TIi2 hT)
    · exact (other _ D.sep.TOz).trans O'
    · exact atK_at t1.1 fun o q => (other _ D.sep.zi1.symm).trans q
    · exact atK_at t2.1 fun o q => (other _ D.sep.zi2.symm).trans q
    · have lt : c < s.heap.objs.size := by
        rcases five hcm with e | e | e | e | e <;> subst e
        · exact zlt
        · exact Heap.lt_size hT
        · exact Heap.lt_size hO
        · obtain ⟨o, e, _⟩ := atK_obj h1
          exact Heap.lt_size e
        · obtain ⟨o, e, _⟩ := atK_obj h2
          exact Heap.lt_size e
      rw [upd_ne (Nat.ne_of_lt lt)]
      exact (hf c hcm).1
  done := by
    intro X hP hw hK hc i pins s σ H E I hf st stop
    subst hP hw hK
    obtain ⟨hz, hT, ⟨u0, v0, hO⟩, h1, h2⟩ := st
    obtain ⟨xs, ys, qx, qy, ex, ey⟩ := stop
    obtain ⟨its, r1, p1⟩ := sk_read I qx
    obtain ⟨jts, r2, p2⟩ := sk_read I qy
    have n1 : i = its.toArray.size := by rw [List.size_toArray, ← r1.length]; exact ex.symm
    have n2 : i = jts.toArray.size := by rw [List.size_toArray, ← r2.length]; exact ey.symm
    have hd : X.A.in1.handled = none := I.ok.hd hc
    refine wpAny_pyNext_zipD2_end D.sep (drawsK k1 hd i1 a D.ai its.toArray) (drawsK k2 hd i2 b D.bi jts.toArray) hz hT hO ⟨h1, p1⟩ ⟨h2, p2⟩ (Nat.le_of_eq n1) (Nat.le_of_eq n2) (.inl n1) fun h' tk kp => ⟨rfl, ?_⟩
    exact I.turnedL (ch := [z, TI, TO, i1, i2]) (fun c o nc q => kp c o (fun e => nc (by rw [e]; simp)) (fun e => nc (by rw [e]; simp)) (fun e => nc (by rw [e]; simp)) (fun e => nc (by rw [e]; simp)) q) hf
  self := fun A i s Q E st h => wpAny_pyIter_zip st.1 h
def iZipK (K : PySem.W.Frag) (ta : TA) : TI := fun σ H R => ta σ H fun vs H1 => ∃ k1 k2 a b xs ys, vs = [.ref a, .ref b] ∧ Sk K k1 H1 a xs ∧ Sk K k2 H1 b ys ∧ R (ItzK K k1 k2 a b) H1
set_option maxHeartbeats 600000 in
theorem pi_zipK {X : Cx} {e e2 : Expr} {ta : TA} {p pos tpos : Pos} {elts : List Expr} {kk : Nat} (hg : Gl X "zip") (hm : X.mg "zip" = none) (ha : PA X [e, e2] ta)
    (hs : starEach [e, e2] X.env = (false, eval e X.env) :: starEach [e2] X.env := by rfl) (hpl : (backTo pos (starEach [e2] X.env)).any (·.1) = false := by rfl) :
    PI X (.Tuple elts kk tpos) (.Call (.Name "zip" p) [e, e2] [] pos) (iZipK X.K ta) := by
  constructor
  intro pins s σ H R I h
  refine Call_ (ld_blt I hg hm PyProof.Rows.boot_zip (PyProof.Rows.callWith_type1 (thn (ha.run pos pins s σ H _ I h) fun us s1 ⟨vs, H1, I1, r1, q1⟩ => ?_) hs hpl))
  obtain ⟨k1, k2, a, b, xs, ys, ev, qx, qy, q⟩ := q1
  subst ev
  obtain ⟨u1, u2, rfl, ra, rb⟩ := vals2 r1
  obtain rfl : u1 = Value.ref a := ra
  obtain rfl : u2 = Value.ref b := rb
  obtain ⟨its, _, p1⟩ := sk_read I1 qx
  obtain ⟨jts, _, p2⟩ := sk_read I1 qy
  refine zip_begins2 (beginsK k1 a its.toArray) (beginsK k2 b jts.toArray) p1 p2 fun h' hz hT hO g1 g2 _ kp => wpAny_pyIter_zip hz ?_
  have J : Inv X pins σ H1 { s1 with heap := h' } := I1.kept (t' := s1.toks) kp
  have D := cells_of s1.heap.objs.size a b (seqK_lt p1) (seqK_lt p2)
  have W : Now k1 k2 (s1.heap.objs.size + 4) (s1.heap.objs.size + 2) (s1.heap.objs.size + 3) s1.heap.objs.size (s1.heap.objs.size + 1) a b 0 h' := ⟨hz, hT, ⟨_, _, hO⟩, atK_beg g1, atK_beg g2⟩
  have F : ∀ c ∈ [s1.heap.objs.size + 4, s1.heap.objs.size + 2, s1.heap.objs.size + 3, s1.heap.objs.size, s1.heap.objs.size + 1], FpOk X pins H1 c := fun c hc => by
    have le : s1.heap.objs.size ≤ c := by
      rcases five hc with e | e | e | e | e
      · rw [e]; exact Nat.le_add_right _ _
      · rw [e]; exact Nat.le_add_right _ _
      · rw [e]; exact Nat.le_add_right _ _
      · rw [e]; exact Nat.le_refl _
      · rw [e]; exact Nat.le_add_right _ _
    exact I1.fpOk le (I1.hok.fresh le)
  exact ⟨_, _, _, _, H1, rfl, J, turn_zipK D, W, F, q⟩
theorem walk_zipK {K : PySem.W.Frag} {k1 k2 : Bool} {a b : Addr} {xs ys : List V} {n : Nat} (h1 : xs.length = n) (h2 : ys.length = n) : Walk (ItzK K k1 k2 a b) n (fun H => Sk K k1 H a xs ∧ Sk K k2 H b ys) (YPair (fun i => xs[i]?) (fun i => ys[i]?)) :=
  ⟨fun i H hi g => ⟨xs, ys, xs[i], ys[i], g.1, g.2, List.getElem?_eq_getElem (by omega), List.getElem?_eq_getElem (by omega)⟩, fun H g => ⟨xs, ys, g.1, g.2, h1, h2⟩,
    fun i H x H' _ g y => by
      obtain ⟨T, u, v, e1, e2, e3, e4, e5⟩ := y
      exact ⟨T, u, v, e1, e2, e3, e4 _ g.1, e5 _ g.2⟩⟩
end HwZ

/-! ### any of a tuple of ints; the least common multiple -/
namespace HwA
open PySem PySem.Spec PyProof.Rows L2
section
variable {X : Cx}
theorem any_bools (ns : List Int) : ∀ (bs : List Bool), bs = ns.map (fun n => n != 0) → (List.range ns.length).any (fun i => (ns.map fun n => n != 0).getD i false) = ns.any fun n => n != 0 := fun bs _ => by
  have h := any_range (ns.map fun n => n != 0)
  rw [List.length_map] at h
  rw [h, List.any_map]
  rfl
def rAnyT (K : PySem.W.Frag) : List V → Hp → VK → Prop := fun vs H Q => ∃ (a : Addr) (ns : List Int), vs = [V.ref a] ∧ SqT K H a (ns.map V.int) ∧ Q (.bl (ns.any fun n => n != 0)) H
theorem cr_anyT (hc : X.calm = true) : CallR X (.builtin "any") (rAnyT X.K) := by
  intro pins s σ H vs us Q I r h
  obtain ⟨a, ns, rfl, hs, q⟩ := h
  obtain ⟨its, rv, ht, _⟩ := I.tuple hs
  rw [Vals.ref1 r]
  have it : s.heap.IsTuple a its.toArray := ht
  have lt : a < s.heap.objs.size := by
    obtain ⟨_, e, _⟩ := it
    exact Heap.lt_size e
  refine call_any_walk (wpAny_pyIter_tuple it ⟨s.heap.objs.size, _, _, _, _, _, (fun i => (ns.map fun n => n != 0).getD i false), rfl, Walks.tuple (A := X.A.in1) (I.ok.hd hc) _ a (Nat.ne_of_lt lt) its.toArray, ⟨⟨_, Heap.get?_push_size _ rfl, rfl, rfl⟩, ?_⟩, ?_, fun h' tk hk => ?_⟩)
  · exact it.at fun o e => Heap.get?_push_of_some _ e
  · intro i v s' Q' E' hv hq
    have hv' : its[i]? = some v := by simpa using hv
    have lxs := rv.length
    have hi : i < ns.length := by
      have := (List.getElem?_eq_some_iff.mp hv').1
      rw [List.length_map] at lxs
      omega
    have g : (ns.map V.int)[i]? = some (.int ns[i]) := by
      rw [List.getElem?_map, List.getElem?_eq_getElem hi]
      rfl
    obtain ⟨u, hu, ru⟩ := rv.get g
    obtain ⟨t, eu⟩ := ru
    have ev : v = Value.int ns[i] t := (Option.some.inj (hv'.symm.trans hu)).trans eu
    subst ev
    have e2 : (ns.map fun n => n != 0).getD i false = (ns[i] != 0) := by
      rw [List.getD_eq_getElem?_getD, List.getElem?_map, List.getElem?_eq_getElem hi]
      rfl
    have hq2 : Q' ((ns.map fun n => n != 0).getD i false) s' := hq
    rw [e2] at hq2
    exact truthy_int hq2
  · refine ⟨.bl _, H, I.kept fun b o eo => hk b o (fun m => ?_) (Heap.get?_push_of_some _ eo), ?_, q⟩
    · rcases List.mem_cons.mp m with e1 | m
      · exact absurd (e1 ▸ Heap.lt_size eo) (Nat.lt_irrefl _)
      · cases m
    · show Value.bool _ = Value.bool _
      have l1 := rv.length
      rw [List.length_map] at l1
      rw [List.size_toArray, ← l1, any_bools ns _ rfl]
/-- the least common multiple -/
def rLcm : List V → Hp → VK → Prop := fun vs H Q => ∃ a b : Int, vs = [.int a, .int b] ∧ a.natAbs < 2 ^ 4000 ∧ b.natAbs < 2 ^ 4000 ∧ Q (.int ((Nat.lcm a.natAbs b.natAbs : Nat) : Int)) H
theorem lcm_lim {a b : Nat} (ha : a < 2 ^ 4000) (hb : b < 2 ^ 4000) : Nat.lcm a b < 2 ^ 8000 := by
  have h1 : Nat.lcm a b ≤ a * b := by
    unfold Nat.lcm
    exact Nat.div_le_self _ _
  have h2 : a * b < 2 ^ 4000 * 2 ^ 4000 := Nat.mul_lt_mul'' ha hb
  rw [← Nat.pow_add] at h2
  exact Nat.lt_of_le_of_lt h1 h2
theorem cr_lcm : CallR X (.builtin "math.lcm") rLcm := by
  intro pins s σ H vs us Q I r h
  obtain ⟨a, b, rfl, ha, hb, q⟩ := h
  obtain ⟨t, u, rfl⟩ := Vals.int2 r
  have lg : ∀ n : Nat, n < 2 ^ 4000 → n.log2 < 4000 := fun n hn => PySem.Flt.log2_lt_of (by decide) hn
  have one : (1 : Nat) < 2 ^ 4000 := Nat.one_lt_two_pow (by decide)
  have m1 : (max 1 a.natAbs).log2 < 4000 := lg _ (by rw [Nat.max_lt]; exact ⟨one, ha⟩)
  have m2 : (max a.natAbs b.natAbs).log2 < 4000 := lg _ (by rw [Nat.max_lt]; exact ⟨ha, hb⟩)
  have e : (Nat.lcm 1 a.natAbs).lcm b.natAbs = Nat.lcm a.natAbs b.natAbs := by rw [Nat.lcm_one_left]
  have sz : ((((Nat.lcm 1 a.natAbs).lcm b.natAbs : Nat) : Int)).natAbs.log2 < bitsLine := by
    rw [e, Int.natAbs_natCast]
    have : (Nat.lcm a.natAbs b.natAbs).log2 < 8000 := PySem.Flt.log2_lt_of (by decide) (lcm_lim ha hb)
    have b8 : (8000 : Nat) ≤ bitsLine := by decide
    omega
  refine PySem.call_function_meets PySem.W.MGF.kind_lcm PySem.W.MGF.plain_lcm PySem.W.MGF.entry_lcm (PySem.W.MGF.args_lcm _ _) (PySem.W.mg_run_lcm a t b u (by omega) (by omega) sz).meets ?_
  rw [e]
  exact ⟨.int _, H, I.tok _, ⟨_, rfl⟩, q⟩
end
end HwA

namespace HwP
open PySem PySem.Spec PyProof.Rows L2 Hw
open C8 (pss_cut tCut)
open HwG RZ HwZ HwA
def topS (i : Nat) : Stmt := PySem.Challenge.pw_hullwright_k10_functions_of_points.main.body.getD i (.Pass ⟨0, 0, 0, 0⟩)
/-- the built-in names that the text leaves as they are, and gcd -/
structure Glb (mg : Str → Option Value) : Prop where
  m_len : mg "len" = none
  m_range : mg "range" = none
  m_int : mg "int" = none
  m_list : mg "list" = none
  m_tuple : mg "tuple" = none
  m_bool : mg "bool" = none
  m_isinstance : mg "isinstance" = none
  m_abs : mg "abs" = none
  m_sum : mg "sum" = none
  m_zip : mg "zip" = none
  m_str : mg "str" = none
  m_any : mg "any" = none
  m_all : mg "all" = none
  m_gcd : mg "gcd" = some (.builtin "math.gcd")
  m_lcm : mg "lcm" = some (.builtin "math.lcm")
/-- what a body that calls a def wants of it -/
structure Call (P : Program) (w : World) (K : PySem.W.Frag) (mg : Str → Option Value) (base : Heap) (k : Nat) (nm : Str) (ps : List Str) (sp : Sp) where
  g : Addr
  gd : FuncData
  G : FnOk P w K mg base CX0 k g gd ps sp
  m : mg nm = some (.ref g)
  kp : PySem.W.keepIn K (.ref g) = true
  b : Binds K gd ps []
section
variable {P : Program} {w : World} {K : PySem.W.Frag} {mg : Str → Option Value} {base : Heap}

/-! ### own error classes over ValueError -/
abbrev VE : List Value := [.type "ValueError", .type "Exception", .type "BaseException", .type "object"]
/-- what the written part says of the class nm at C -/
structure Er (K : PySem.W.Frag) (mg : Str → Option Value) (nm : Str) (C : Addr) : Prop where
  g : mg nm = some (.ref C)
  x : PySem.W.excIn K C VE "ValueError.__new__" = true
  k : PySem.W.keepIn K (.ref C) = true
  b : PySem.W.subIn K (.ref C) (.type "BaseException") = some true
  t : PySem.W.typeIn K (.ref C) = some (.type "type")
  d : PySem.W.hasDictIn K C = true
  s : PySem.W.subIn K (.ref C) (.ref C) = some true
theorem Er.em {K : PySem.W.Frag} {mg : Str → Option Value} {nm : Str} {C : Addr} (T : Er K mg nm C) : PySem.W.exmOne K (.ref C) (.ref C) = some true := PySem.W.exm_ref T.b T.d T.t T.s
def rE (K : PySem.W.Frag) (D a : Addr) (cls : Value) (d : Option Addr) : List V → Hp → VK → Prop := fun xs H Q => cls = .ref D ∧ d = none ∧ rIsE K D a xs H Q
section
variable {X : Cx}
/-- raise nm('..') -/
theorem raiseE {W : WX} {nm : Str} {C : Addr} {m : Str} {j : Nat} {p p2 pos pos2 : Pos} (T : Er X.K X.mg nm C) (hc : X.calm = true) (tk : Takes X W) (hg : Gl X nm) (hdb : (nm == ("__debug__" : Str)) = false := by decide) :
    PS X (.Raise (some (.Call (.Name nm p) [.Constant (.str m) j p2] [] pos)) none pos2) (fun _ σ H => W (.ref C) none σ H) :=
  ps_raise hc tk (pmk_own PySem.F.excBase_ValueError T.x T.g T.k (raises_own T.b T.t) hg hdb)
/-- isinstance of the error that the suite holds -/
theorem call_isE2 {a D : Addr} {cls : Value} {d : Option Addr} {oe : Obj} {pn : List (Addr × Obj)} (C : ExcC X.K D) (hz : Zc cls d oe) (hf : ∃ vs, oe.data = .fields vs) : CallR (X.suite a ((a, oe) :: pn)) (.builtin "isinstance") (rE X.K D a cls d) := by
  intro pins s σ H xs us Q I r h
  obtain ⟨rfl, rfl, h⟩ := h
  exact call_isE C hz hf pins s σ H xs us Q I r h
end

/-! ### the law's greatest common divisor -/
abbrev s__law_gcd : Stmt := topS 25
theorem sc__law_gcd : FnScope ["a", "b", "k", "hold"] ["a", "b"] (defScope s__law_gcd) := ⟨rfl, rfl, rfl, by decide +kernel, rfl, by decide +kernel, by decide +kernel⟩
def spGcd : Sp := fun vs H Q _ => ∃ a b : Int, vs = [.int a, .int b] ∧ a.natAbs < 2 ^ 299 ∧ b.natAbs < 2 ^ 299 ∧ Q (.int (g2 a b)) H
theorem abs_of (a : Int) : (if a < 0 then -a else a) = ((a.natAbs : Nat) : Int) := by
  split <;> omega
theorem ok_gcd {f : Addr} {fd : FuncData} {k : Nat} (F : Fun K "_law_gcd" "_law_gcd" s__law_gcd f fd) (Z : Glb mg) : FnOk P w K mg base CX0 (k + 1) f fd ["a", "b"] spGcd := by
  refine F.ok sc__law_gcd (fun vs H Q E h => ?_) (fun cdv A outer s H vs Q E hr h => ?_)
  · obtain ⟨a, b, rfl, _⟩ := h
    rfl
  · obtain ⟨a, b, rfl, ha, hb, q⟩ := h
    refine ⟨_, (pss_cons (ps_set (i := 0) sc__law_gcd.nd rfl (.inl rfl) (pe_callB call_abs (by rfl) Z.m_abs (by decide +kernel) (pa_cons (pv 0) pa_nil)))
      (pss_cons (ps_set (i := 1) sc__law_gcd.nd rfl (.inl rfl) (pe_callB call_abs (by rfl) Z.m_abs (by decide +kernel) (pa_cons (pv 1) pa_nil)))
      (pss_cons (ps_for PassesOwn.never rfl (pi_range1 rfl Z.m_range (pa_cons pe_int pa_nil)) (pg_name (i := 2) sc__law_gcd.nd rfl (.inl rfl)) (pss_cons (ps_if (pt_cmpR op_eq (pv 1) pe_int (nomark _)) (pss_one ps_break) pss_nil)
      (pss_cons (ps_set (i := 3) sc__law_gcd.nd rfl (.inl rfl) (pe_op op_modN (pe_callTy call_int1 (by rfl) Z.m_int (by decide +kernel) (pa_cons (pv 0) pa_nil)) (pv 1)))
      (pss_cons (ps_set (i := 0) sc__law_gcd.nd rfl (.inl rfl) (pv 1))
      (pss_one (ps_set (i := 1) sc__law_gcd.nd rfl (.inl rfl) (pv 3)))))))
      (pss_one (ps_ret (pv 0)))))), ?_⟩
    refine ⟨_, rfl, a, rfl, _, rfl, b, rfl, 600, rfl, by decide, by decide, ?_⟩
    rw [abs_of, abs_of]
    refine for_range (lo := 0) (n := 600) (fun i σ H' => H' = H ∧ ∃ (A B : Nat) (y2 y3 : Option V), σ = [some (.int A), some (.int B), y2, y3] ∧ Nat.gcd A B = Nat.gcd a.natAbs b.natAbs ∧ Fit i A B) ⟨rfl, _, _, _, _, rfl, rfl, fit0 ha hb⟩ (fun i σ H' hi hP => ?_) (fun σ H' hP => ?_)
    · obtain ⟨rfl, A', B', y2, y3, rfl, hg, hf⟩ := hP
      refine ⟨_, rfl, rfl, _, rfl, ite2 (fun e => ?_) (fun e => ?_)⟩
      · have e0 : B' = 0 := by
          have := V.int.inj (of_decide_eq_true e)
          omega
        subst e0
        refine ⟨_, rfl, ?_⟩
        rw [Nat.gcd_zero_right] at hg
        rw [hg]
        exact q
      · have e0 : B' ≠ 0 := fun z => e (by subst z; exact decide_eq_true rfl)
        refine ⟨_, rfl, .inl ⟨_, rfl, _, rfl, _, _, rfl, rfl, by omega, ?_⟩⟩
        have em : ((A' : Int).fmod (B' : Int)) = ((A' % B' : Nat) : Int) := by
          rw [Int.fmod_eq_emod_of_nonneg _ (by omega)]
          rfl
        refine ⟨_, rfl, _, rfl, rfl, B', A' % B', some (.int (0 + (i : Int))), some (.int ((A' % B' : Nat) : Int)), ?_, ?_, fit_step hf e0⟩
        · rw [← em]
          rfl
        · rw [gcd_turn, hg]
    · obtain ⟨rfl, A', B', y2, y3, rfl, hg, hf⟩ := hP
      have e0 := fit_end hf
      subst e0
      rw [Nat.gcd_zero_right] at hg
      refine ⟨_, rfl, ?_⟩
      rw [hg]
      exact q

/-! ### the law's draws: what they leave is told by bounds alone -/
abbrev s__law_spread : Stmt := topS 22
theorem sc__law_spread : FnScope ["cell", "mixed", "total", "k"] ["cell"] (defScope s__law_spread) := ⟨rfl, rfl, rfl, by decide +kernel, rfl, by decide +kernel, by decide +kernel⟩
def spSpread : Sp := fun vs H Q _ => ∃ c : Int, vs = [.int c] ∧ ∀ t : Int, Q (.int t) H
theorem ok_spread {f : Addr} {fd : FuncData} {k : Nat} (F : Fun K "_law_spread" "_law_spread" s__law_spread f fd) (Z : Glb mg) : FnOk P w K mg base CX0 (k + 1) f fd ["cell"] spSpread := by
  refine F.ok sc__law_spread (fun vs H Q E h => ?_) (fun cdv A outer s H vs Q E hr h => ?_)
  · obtain ⟨c, rfl, _⟩ := h
    rfl
  · obtain ⟨c, rfl, q⟩ := h
    refine ⟨_, (pss_cons (ps_set (i := 1) sc__law_spread.nd rfl (.inl rfl) (pe_op op_modN (pe_callTy call_int1 (by rfl) Z.m_int (by decide +kernel) (pa_cons (pv 0) pa_nil)) pe_int))
      (pss_cons (ps_set (i := 2) sc__law_spread.nd rfl (.inl rfl) pe_int)
      (pss_cons (ps_for PassesOwn.never rfl (pi_range1 rfl Z.m_range (pa_cons pe_int pa_nil)) (pg_name (i := 3) sc__law_spread.nd rfl (.inl rfl)) (pss_cons (ps_set (i := 1) sc__law_spread.nd rfl (.inl rfl) (pe_op op_modN (pe_callTy call_int1 (by rfl) Z.m_int (by decide +kernel) (pa_cons (pe_op op_add (pe_op op_add (pe_op op_mul (pv 1) pe_int) pe_int) (pv 3)) pa_nil)) pe_int))
      (pss_one (ps_set (i := 2) sc__law_spread.nd rfl (.inl rfl) (pe_op op_add (pe_op op_mul (pv 2) pe_int) (pv 1))))))
      (pss_one (ps_ret (pv 2)))))), ?_⟩
    refine ⟨_, rfl, .inl ⟨_, rfl, _, _, rfl, rfl, (by show (2147483647 : Int) ≠ 0; decide), 4, rfl, by decide, by decide, ?_⟩⟩
    refine for_range (lo := 0) (n := 4) (fun i σ H' => H' = H ∧ ∃ (m t : Int) (y3 : Option V), σ = [some (.int c), some (.int m), some (.int t), y3]) ⟨rfl, _, _, _, rfl⟩ (fun i σ H' hi hP => ?_) (fun σ H' hP => ?_)
    · obtain ⟨rfl, m, t, y3, rfl⟩ := hP
      refine ⟨_, rfl, _, _, rfl, rfl, .inr ⟨by decide, by decide⟩, _, _, rfl, rfl, _, rfl, _, _, rfl, rfl, .inl ⟨_, rfl, _, _, rfl, rfl, (by show (2147483647 : Int) ≠ 0; decide), ?_⟩⟩
      exact ⟨_, rfl, _, _, rfl, rfl, .inr ⟨by decide, by decide⟩, _, rfl, _, _, rfl, rfl, rfl, _, _, _, rfl⟩
    · obtain ⟨rfl, m, t, y3, rfl⟩ := hP
      exact ⟨_, rfl, q t⟩
/-- a pool: its script's ints, then four ints -/
def Pl (H : Hp) (p : Addr) : Prop := ∃ (q : Addr) (ns : List Int) (a : Nat) (b c d : Int), H p = some (.lst [.ref q, .int a, .int b, .int c, .int d]) ∧ H q = some (.lst (ns.map V.int)) ∧ q ≠ p
/-- the head of the list at p -/
def Hd (H : Hp) (p q : Addr) : Prop := ∃ l, H p = some (.lst (.ref q :: l))
/-- all but p is as it was, and p has its head -/
def But (p : Addr) (H H' : Hp) : Prop := (∀ x, x ≠ p → H' x = H x) ∧ ∀ q, Hd H p q → Hd H' p q
theorem But.refl (p : Addr) (H : Hp) : But p H H := ⟨fun _ _ => rfl, fun _ h => h⟩
theorem But.trans {p : Addr} {H H1 H2 : Hp} (a : But p H H1) (b : But p H1 H2) : But p H H2 := ⟨fun x h => (b.1 x h).trans (a.1 x h), fun q h => b.2 q (a.2 q h)⟩
theorem But.upd {p q : Addr} {H : Hp} {l l' : List V} (hp : H p = some (.lst (.ref q :: l))) : But p H (upd H p (.lst (.ref q :: l'))) :=
  ⟨fun _ h => upd_ne h, fun q' h => by
    obtain ⟨l2, e⟩ := h
    have := hp.symm.trans e
    injection this with this
    injection this with this
    injection this with this
    injection this with this
    subst this
    exact ⟨l', upd_same⟩⟩
theorem pl_upd {H : Hp} {p q : Addr} {ns : List Int} (a : Nat) (b c d : Int) (hq : H q = some (.lst (ns.map V.int))) (ne : q ≠ p) : Pl (upd H p (.lst [.ref q, .int a, .int b, .int c, .int d])) p :=
  ⟨q, ns, a, b, c, d, upd_same, by rw [upd_ne ne]; exact hq, ne⟩
abbrev s__law_draw : Stmt := topS 23
theorem sc__law_draw : FnScope ["pool", "many", "cell", "mixed", "value"] ["pool", "many"] (defScope s__law_draw) := ⟨rfl, rfl, rfl, by decide +kernel, rfl, by decide +kernel, by decide +kernel⟩
def spDraw : Sp := fun vs H Q _ => ∃ (p : Addr) (m : Int), vs = [.ref p, .int m] ∧ 0 < m ∧ m.natAbs < 2 ^ 8000 ∧ Pl H p ∧ ∀ (v : Int) (H' : Hp), 0 ≤ v → v < m → Pl H' p → But p H H' → Q (.int v) H'
theorem ok_draw {f : Addr} {fd : FuncData} {k : Nat} (F : Fun K "_law_draw" "_law_draw" s__law_draw f fd) (Z : Glb mg)
    (C_law_spread : Call P w K mg base k "_law_spread" ["cell"] spSpread) : FnOk P w K mg base CX0 (k + 1) f fd ["pool", "many"] spDraw := by
  refine F.ok sc__law_draw (fun vs H Q E h => ?_) (fun cdv A outer s H vs Q E hr h => ?_)
  · obtain ⟨p, m, rfl, _⟩ := h
    rfl
  · obtain ⟨p, m, rfl, hm, hb, hP, q⟩ := h
    refine ⟨_, (pss_cut (ps_if (PW.pt (pw_and (pt_cmpR op_le (pe_ix (r := rIxL K) ix_list (pv 0) pe_int (fun _ _ => rfl)) pe_int (nomark _)) (pw_and1 (pt_cmpR op_lt (pe_ix (r := rIxL K) ix_list (pv 0) pe_int (fun _ _ => rfl)) (pe_callB call_len_seq (by rfl) Z.m_len PySem.boot_len (pa_cons (pe_ix (r := rIxL K) ix_list (pv 0) pe_int (fun _ _ => rfl)) pa_nil)) (nomark _))))) (pss_cons (ps_set (i := 2) sc__law_draw.nd rfl (.inl rfl) (pe_ix (r := rIxL K) ix_list (pe_ix (r := rIxL K) ix_list (pv 0) pe_int (fun _ _ => rfl)) (pe_ix (r := rIxL K) ix_list (pv 0) pe_int (fun _ _ => rfl)) (fun _ _ => rfl)))
      (pss_cons (ps_asg (pe_op op_add (pe_ix (r := rIxL K) ix_list (pv 0) pe_int (fun _ _ => rfl)) pe_int) (pg_sub (pv 0) pe_int set_list))
      (pss_cons (ps_asg (pv 2) (pg_sub (pv 0) pe_int set_list))
      (pss_one (ps_if (pt_cmpR op_lt (pv 2) pe_int (nomark _)) (pss_one (ps_asg (pe_call C_law_spread.G hr (by rfl) C_law_spread.m C_law_spread.kp C_law_spread.b .nil pass0 (pa_cons (pv 2) pa_nil)) (pg_sub (pv 0) pe_int set_list))) pss_nil))))) pss_nil)
      (pss_cons (ps_asg (pe_op op_add (pe_ix (r := rIxL K) ix_list (pv 0) pe_int (fun _ _ => rfl)) pe_int) (pg_sub (pv 0) pe_int set_list))
      (pss_cons (ps_if (pt_cmpR op_le (pe_ix (r := rIxL K) ix_list (pv 0) pe_int (fun _ _ => rfl)) pe_int (nomark _)) (pss_cons (ps_set (i := 3) sc__law_draw.nd rfl (.inl rfl) (pe_op op_modN (pe_callTy call_int1 (by rfl) Z.m_int (by decide +kernel) (pa_cons (pe_op op_add (pe_op op_add (pe_op op_mul (pe_ix (r := rIxL K) ix_list (pv 0) pe_int (fun _ _ => rfl)) pe_int) (pe_op op_mul (pe_ix (r := rIxL K) ix_list (pv 0) pe_int (fun _ _ => rfl)) pe_int)) pe_int) pa_nil)) pe_int))
      (pss_cons (ps_set (i := 3) sc__law_draw.nd rfl (.inl rfl) (pe_op op_modN (pe_callTy call_int1 (by rfl) Z.m_int (by decide +kernel) (pa_cons (pe_op op_add (pe_op op_mul (pv 3) pe_int) (pe_ix (r := rIxL K) ix_list (pv 0) pe_int (fun _ _ => rfl))) pa_nil)) pe_int))
      (pss_one (ps_ret (pe_op op_modN (pe_op op_fdivN (pv 3) pe_int) (pv 1)))))) pss_nil)
      (pss_cons (ps_set (i := 4) sc__law_draw.nd rfl (.inl rfl) (pe_op op_modN (pe_callTy call_int1 (by rfl) Z.m_int (by decide +kernel) (pa_cons (pe_ix (r := rIxL K) ix_list (pv 0) pe_int (fun _ _ => rfl)) pa_nil)) (pv 1)))
      (pss_cons (ps_asg (pe_op op_fdivW (pe_ix (r := rIxL K) ix_list (pv 0) pe_int (fun _ _ => rfl)) (pv 1)) (pg_sub (pv 0) pe_int set_list))
      (pss_one (ps_ret (pv 4)))))))), ?_⟩
    refine ⟨fun σ H' => ∃ y2 : Option V, σ = [some (.ref p), some (.int m), y2, none, none] ∧ Pl H' p ∧ But p H H', ?_, ?_⟩
    · obtain ⟨q', ns, a, b, c, d, hp, hq, ne⟩ := hP
      refine ⟨_, rfl, _, _, _, _, rfl, rfl, SqL.of hp, atI_nat (j := 2) rfl, _, _, rfl, rfl, _, rfl, ite2 (fun e1 => ?_) (fun e1 => ?_)⟩
      · refine ⟨_, rfl, _, _, _, _, rfl, rfl, SqL.of hp, atI_nat (j := 1) rfl, _, rfl, _, _, _, _, rfl, rfl, SqL.of hp, atI_nat (j := 0) rfl, _, _, rfl, .inl (SqL.of hq), _, _, rfl, rfl, _, rfl, ite2 (fun e2 => ?_) (fun e2 => ?_)⟩
        · have e3 : a < ns.length := by
            have := of_decide_eq_true e2
            rw [List.length_map] at this
            omega
          have g1 : (ns.map V.int)[a]? = some (.int ns[a]) := by
            rw [List.getElem?_map, List.getElem?_eq_getElem e3]
            rfl
          -- cell = pool[0][pool[1]]
          refine ⟨_, rfl, _, _, _, _, rfl, rfl, SqL.of hp, atI_nat (j := 0) rfl, _, rfl, _, _, _, _, rfl, rfl, SqL.of hp, atI_nat (j := 1) rfl, _, _, _, _, rfl, rfl, SqL.of hq, atI_nat g1, ?_⟩
          -- pool[1] = pool[1] + 1
          refine ⟨_, rfl, _, _, _, _, rfl, rfl, SqL.of hp, atI_nat (j := 1) rfl, _, _, rfl, rfl, _, rfl, _, _, _, 1, rfl, rfl, hp, rfl, ?_⟩
          -- pool[2] = cell
          refine ⟨_, rfl, _, rfl, _, _, _, 2, rfl, rfl, upd_same, rfl, ?_⟩
          rw [upd_upd]
          refine ⟨_, rfl, _, _, rfl, rfl, _, rfl, ite2 (fun e4 => ?_) (fun e4 => ?_)⟩
          · refine ⟨_, rfl, _, rfl, fun t => ⟨_, rfl, _, _, _, 2, rfl, rfl, upd_same, rfl, ?_⟩⟩
            rw [upd_upd]
            exact ⟨some (.int ns[a]), rfl, pl_upd (a + 1) t c d hq ne, (But.upd hp)⟩
          · exact ⟨some (.int ns[a]), rfl, pl_upd (a + 1) ns[a] c d hq ne, (But.upd hp)⟩
        · exact ⟨none, rfl, ⟨q', ns, a, b, c, d, hp, hq, ne⟩, But.refl _ _⟩
      · exact iteF ⟨none, rfl, ⟨q', ns, a, b, c, d, hp, hq, ne⟩, But.refl _ _⟩
    · intro σ H1 hW
      obtain ⟨y2, rfl, ⟨q', ns, a, b, c, d, hp, hq, ne⟩, hB⟩ := hW
      -- pool[3] = pool[3] + 1
      refine ⟨_, rfl, _, _, _, _, rfl, rfl, SqL.of hp, atI_nat (j := 3) rfl, _, _, rfl, rfl, _, rfl, _, _, _, 3, rfl, rfl, hp, rfl, ?_⟩
      have h0 : (upd H1 p (.lst [.ref q', .int a, .int b, .int (c + 1), .int d])) p = some (.lst [.ref q', .int a, .int b, .int (c + 1), .int d]) := upd_same
      refine ⟨_, rfl, _, _, _, _, rfl, rfl, SqL.of h0, atI_nat (j := 2) rfl, _, _, rfl, rfl, _, rfl, ite2 (fun e1 => ?_) (fun e1 => ?_)⟩
      · refine ⟨_, rfl, _, _, _, _, rfl, rfl, SqL.of h0, atI_nat (j := 4) rfl, _, _, rfl, rfl, .inr ⟨by decide, by decide⟩, _, rfl, _, _, _, _, rfl, rfl, SqL.of h0, atI_nat (j := 3) rfl, _, _, rfl, rfl, .inr ⟨by decide, by decide⟩, _, _, rfl, rfl, _, _, rfl, rfl, .inl ⟨_, rfl, _, _, rfl, rfl, (by show (2147483647 : Int) ≠ 0; decide), ?_⟩⟩
        refine ⟨_, rfl, _, _, rfl, rfl, .inr ⟨by decide, by decide⟩, _, rfl, _, _, _, _, rfl, rfl, SqL.of h0, atI_nat (j := 3) rfl, _, _, rfl, rfl, .inl ⟨_, rfl, _, _, rfl, rfl, (by show (2147483629 : Int) ≠ 0; decide), ?_⟩⟩
        refine ⟨_, rfl, _, _, rfl, rfl, ⟨by decide, by decide⟩, _, rfl, _, _, rfl, rfl, (by show m ≠ 0; omega), ?_⟩
        exact q _ _ (Int.fmod_nonneg_of_pos _ hm) (Int.fmod_lt_of_pos _ hm) (pl_upd a b (c + 1) d hq ne) (hB.trans (But.upd hp))
      · refine ⟨_, rfl, _, _, _, _, rfl, rfl, SqL.of h0, atI_nat (j := 2) rfl, .inl ⟨_, rfl, _, rfl, _, _, rfl, rfl, (by show m ≠ 0; omega), ?_⟩⟩
        refine ⟨_, rfl, _, _, _, _, rfl, rfl, SqL.of h0, atI_nat (j := 2) rfl, _, rfl, _, _, rfl, rfl, wide_div hm hb (by decide) (by decide), _, rfl, _, _, _, 2, rfl, rfl, h0, rfl, ?_⟩
        rw [upd_upd]
        refine ⟨_, rfl, ?_⟩
        exact q _ _ (Int.fmod_nonneg_of_pos _ hm) (Int.fmod_lt_of_pos _ hm) (pl_upd a _ (c + 1) d hq ne) (hB.trans (But.upd hp))

/-! ### the law's pool -/
abbrev s__law_pool : Stmt := topS 21
theorem sc__law_pool : FnScope ["script", "salt", "cell"] ["script"] (defScope s__law_pool) := ⟨rfl, rfl, rfl, by decide +kernel, rfl, by decide +kernel, by decide +kernel⟩
theorem same_upd {H : Hp} {p : Addr} {o : HO} (h : H p = none) : Same H (upd H p o) := fun b x e => by
  rw [upd_ne (ne_of_none e h)]
  exact e
theorem cut_int {ns : List Int} {lo hi : Option Int} {i : Nat} {x : V} (h : (cutV (ns.map V.int) lo hi)[i]? = some x) : ∃ n : Int, x = .int n := by
  have m := List.mem_of_getElem? h
  unfold cutV at m
  have m2 := List.mem_of_mem_drop (List.mem_of_mem_take m)
  obtain ⟨n, _, e⟩ := List.mem_map.mp m2
  exact ⟨n, e.symm⟩
def spPool (K : PySem.W.Frag) : Sp := fun vs H Q _ => ∃ (a : Addr) (ns : List Int), vs = [.ref a] ∧ SqL K H a (ns.map V.int) ∧ ∀ (H' : Hp) (p : Addr), Same H H' → H p = none → Pl H' p → Q (.ref p) H'
theorem ok_pool {f : Addr} {fd : FuncData} {k : Nat} (F : Fun K "_law_pool" "_law_pool" s__law_pool f fd) (Z : Glb mg) : FnOk P w K mg base CX0 (k + 1) f fd ["script"] (spPool K) := by
  refine F.ok sc__law_pool (fun vs H Q E h => ?_) (fun cdv A outer s H vs Q E hr h => ?_)
  · obtain ⟨a, ns, rfl, _⟩ := h
    rfl
  · obtain ⟨a, ns, rfl, hS, q⟩ := h
    refine ⟨_, (pss_cons (ps_set (i := 1) sc__law_pool.nd rfl (.inl rfl) pe_int)
      (pss_cons (ps_for PassesOwn.never rfl (pi_list (pe_slice (r := rSlL K) sl_list (pv 0) po_none (po_some pe_int))) (pg_name (i := 2) sc__law_pool.nd rfl (.inl rfl)) (pss_one (ps_set (i := 1) sc__law_pool.nd rfl (.inl rfl) (pe_op op_modN (pe_callTy call_int1 (by rfl) Z.m_int (by decide +kernel) (pa_cons (pe_op op_add (pe_op op_mul (pv 1) pe_int) (pv 2)) pa_nil)) pe_int))))
      (pss_one (ps_ret (pe_lst (pa_cons (pe_callTy call_list_of (by rfl) Z.m_list (by decide +kernel) (pa_cons (pv 0) pa_nil)) (pa_cons pe_int (pa_cons pe_int (pa_cons pe_int (pa_cons (pv 1) pa_nil)))))))))), ?_⟩
    refine ⟨_, rfl, _, rfl, a, ns.map V.int, rfl, hS, fun c nc => ?_⟩
    have s1 : Same H (upd H c (.lst (cutV (ns.map V.int) none (some 63)))) := same_upd nc
    refine ⟨c, rfl, ⟨_, SqL.of upd_same⟩, ?_⟩
    refine for_list (xs := cutV (ns.map V.int) none (some 63)) (fun i σ H' => H' = upd H c (.lst (cutV (ns.map V.int) none (some 63))) ∧ ∃ (m : Int) (y2 : Option V), σ = [some (.ref a), some (.int m), y2]) ⟨rfl, _, _, rfl⟩ (fun i σ H' _ hP => by obtain ⟨rfl, _⟩ := hP; exact SqL.of upd_same) (fun i x σ H' hx hP => ?_) (fun σ H' hP => ?_)
    · obtain ⟨rfl, m, y2, rfl⟩ := hP
      obtain ⟨n, rfl⟩ := cut_int hx
      exact ⟨_, rfl, _, _, rfl, rfl, .inr ⟨by decide, by decide⟩, _, rfl, _, _, rfl, rfl, .inl ⟨_, rfl, _, _, rfl, rfl, (by show (1000003 : Int) ≠ 0; decide), rfl, _, _, rfl⟩⟩
    · obtain ⟨rfl, m, y2, rfl⟩ := hP
      refine ⟨_, rfl, a, ns.map V.int, rfl, .inl (s1.seq hS), fun l nl => ⟨_, rfl, ?_, fun p np => ?_⟩⟩
      · exact Nat.le_of_lt (small1000 (show 5 ≤ 1000 by decide))
      · have s2 : Same (upd H c (.lst (cutV (ns.map V.int) none (some 63)))) (upd (upd H c (.lst (cutV (ns.map V.int) none (some 63)))) l (.lst (ns.map V.int))) := same_upd nl
        have lp : l ≠ p := ne_of_none upd_same np
        refine q _ _ ((s1.trans s2).trans (same_upd np)) ((s1.trans s2).free np) ⟨l, ns, 0, 0, 0, m, upd_same, ?_, lp⟩
        rw [upd_ne lp]
        exact upd_same

/-! ### the law's comparison of two answers: alike data is told to be the same -/
inductive Alike (H : Hp) : Nat → V → V → Prop where
  | int (n : Nat) (i : Int) : Alike H n (.int i) (.int i)
  | bl (n : Nat) (b : Bool) : Alike H n (.bl b) (.bl b)
  | non (n : Nat) : Alike H n .non .non
  | tup {n : Nat} {a b : Addr} {xs ys : List V} (ha : H a = some (.tup xs)) (hb : H b = some (.tup ys)) (hl : xs.length = ys.length) (hm : xs.length ≤ 1000000) (h : ∀ (i : Nat) (x y : V), xs[i]? = some x → ys[i]? = some y → Alike H n x y) : Alike H (n + 1) (.ref a) (.ref b)
  | lst {n : Nat} {a b : Addr} {xs ys : List V} (ha : H a = some (.lst xs)) (hb : H b = some (.lst ys)) (hl : xs.length = ys.length) (hm : xs.length ≤ 1000000) (h : ∀ (i : Nat) (x y : V), xs[i]? = some x → ys[i]? = some y → Alike H n x y) : Alike H (n + 1) (.ref a) (.ref b)
abbrev s__law_same : Stmt := topS 24
theorem sc__law_same : FnScope ["actual", "due", "k"] ["actual", "due"] (defScope s__law_same) := ⟨rfl, rfl, rfl, by decide +kernel, rfl, by decide +kernel, by decide +kernel⟩
def spSame (n : Nat) : Sp := fun vs H Q _ => ∃ x y : V, vs = [x, y] ∧ Alike H n x y ∧ Q (.bl true) H
structure SameG (mg : Str → Option Value) : Prop where
  mIs : mg "isinstance" = none
  mT : mg "tuple" = none
  mLi : mg "list" = none
  mL : mg "len" = none
  mR : mg "range" = none
  mB : mg "bool" = none
  mI : mg "int" = none
theorem ok_same {f : Addr} {fd : FuncData} {k n : Nat} (F : Fun K "_law_same" "_law_same" s__law_same f fd) (Z : Glb mg)
    (G : ∀ m, n = m + 1 → FnOk P w K mg base CX0 k f fd ["actual", "due"] (spSame m)) (gS : mg "_law_same" = some (.ref f)) (bS : Binds K fd ["actual", "due"] []) : FnOk P w K mg base CX0 (k + 1) f fd ["actual", "due"] (spSame n) := by
  refine F.ok sc__law_same (fun vs H Q E h => ?_) (fun cdv A outer s H vs Q E hr h => ?_)
  · obtain ⟨x, y, rfl, _⟩ := h
    rfl
  · obtain ⟨x, y, rfl, hA, q⟩ := h
    have nd := sc__law_same.nd
    cases hA with
    | int n i =>
      refine ⟨_, pss_cons (ps_if (PW.pt (pw_or (pt_val (pe_callB call_isi (by rfl) Z.m_isinstance (by decide +kernel) (pa_cons (pv 1) (pa_cons (pe_bltn (u := .type "tuple") (v := .ty "tuple") (by rfl) Z.m_tuple (by decide +kernel) rfl) pa_nil)))) (pw_or1 (pt_val (pe_callB call_isi (by rfl) Z.m_isinstance (by decide +kernel) (pa_cons (pv 1) (pa_cons (pe_bltn (u := .type "list") (v := .ty "list") (by rfl) Z.m_list (by decide +kernel) rfl) pa_nil))))))) (pss_cons ps_never (pss_cons ps_never (pss_cons ps_never (pss_one ps_never)))) pss_nil)
        (pss_cons (ps_if (pt_cmp (pc_isN (pv 1))) (pss_one ps_never) pss_nil)
        (pss_cons (ps_if (pt_val (pe_callB call_isi (by rfl) Z.m_isinstance (by decide +kernel) (pa_cons (pv 1) (pa_cons (pe_bltn (u := .type "bool") (v := .ty "bool") (by rfl) Z.m_bool (by decide +kernel) rfl) pa_nil)))) (pss_one ps_never) pss_nil)
        (pss_cons (ps_if (pt_val (pe_callB call_isi (by rfl) Z.m_isinstance (by decide +kernel) (pa_cons (pv 1) (pa_cons (pe_bltn (u := .type "int") (v := .ty "int") (by rfl) Z.m_int (by decide +kernel) rfl) pa_nil))))
          (pss_one (ps_ret (pe_and (pe_callB call_isi (by rfl) Z.m_isinstance (by decide +kernel) (pa_cons (pv 0) (pa_cons (pe_bltn (u := .type "int") (v := .ty "int") (by rfl) Z.m_int (by decide +kernel) rfl) pa_nil)))
            (pe_and (pe_not (pe_callB call_isi (by rfl) Z.m_isinstance (by decide +kernel) (pa_cons (pv 0) (pa_cons (pe_bltn (u := .type "bool") (v := .ty "bool") (by rfl) Z.m_bool (by decide +kernel) rfl) pa_nil))))
            (pe_one (pe_cmpR op_eq (pv 0) (pv 1) (nomark _))))))) pss_nil)
        (pss_one ps_never)))), ?_⟩
      have ty : TyX K H (.int i) (.type "int") := .base (.int i)
      refine ⟨_, rfl, _, _, _, _, _, rfl, ClsV.ty _, ty, kit_ty (by decide +kernel), false, rfl, iteF ⟨_, rfl, _, _, _, _, _, rfl, ClsV.ty _, ty, kit_ty (by decide +kernel), false, rfl, iteF ?_⟩⟩
      refine ⟨_, rfl, false, rfl, iteF ?_⟩
      refine ⟨_, rfl, _, _, _, _, _, rfl, ClsV.ty _, ty, kit_ty (by decide +kernel), false, rfl, iteF ?_⟩
      refine ⟨_, rfl, _, _, _, _, _, rfl, ClsV.ty _, ty, kit_ty (by decide +kernel), true, rfl, iteT ?_⟩
      refine ⟨_, rfl, _, _, _, _, _, rfl, ClsV.ty _, ty, kit_ty (by decide +kernel), true, rfl, iteT ?_⟩
      refine ⟨_, rfl, _, _, _, _, _, rfl, ClsV.ty _, ty, kit_ty (b := "bool") (r := false) (by decide +kernel), false, rfl, true, rfl, iteT ?_⟩
      refine ⟨_, rfl, _, rfl, rfl, ?_⟩
      rw [decide_eq_true rfl]
      exact q
    | bl n b =>
      refine ⟨_, pss_cons (ps_if (PW.pt (pw_or (pt_val (pe_callB call_isi (by rfl) Z.m_isinstance (by decide +kernel) (pa_cons (pv 1) (pa_cons (pe_bltn (u := .type "tuple") (v := .ty "tuple") (by rfl) Z.m_tuple (by decide +kernel) rfl) pa_nil)))) (pw_or1 (pt_val (pe_callB call_isi (by rfl) Z.m_isinstance (by decide +kernel) (pa_cons (pv 1) (pa_cons (pe_bltn (u := .type "list") (v := .ty "list") (by rfl) Z.m_list (by decide +kernel) rfl) pa_nil))))))) (pss_cons ps_never (pss_cons ps_never (pss_cons ps_never (pss_one ps_never)))) pss_nil)
        (pss_cons (ps_if (pt_cmp (pc_isN (pv 1))) (pss_one ps_never) pss_nil)
        (pss_cons (ps_if (pt_val (pe_callB call_isi (by rfl) Z.m_isinstance (by decide +kernel) (pa_cons (pv 1) (pa_cons (pe_bltn (u := .type "bool") (v := .ty "bool") (by rfl) Z.m_bool (by decide +kernel) rfl) pa_nil)))) (pss_one (ps_ret (pe_and (pe_callB call_isi (by rfl) Z.m_isinstance (by decide +kernel) (pa_cons (pv 0) (pa_cons (pe_bltn (u := .type "bool") (v := .ty "bool") (by rfl) Z.m_bool (by decide +kernel) rfl) pa_nil))) (pe_one (pe_cmpR op_eq (pv 0) (pv 1) (nomark _)))))) pss_nil)
        (pss_cons ps_never (pss_one ps_never)))), ?_⟩
      have ty : TyX K H (.bl b) (.type "bool") := .base (.bl b)
      refine ⟨_, rfl, _, _, _, _, _, rfl, ClsV.ty _, ty, kit_ty (by decide +kernel), false, rfl, iteF ⟨_, rfl, _, _, _, _, _, rfl, ClsV.ty _, ty, kit_ty (by decide +kernel), false, rfl, iteF ?_⟩⟩
      refine ⟨_, rfl, false, rfl, iteF ?_⟩
      refine ⟨_, rfl, _, _, _, _, _, rfl, ClsV.ty _, ty, kit_ty (by decide +kernel), true, rfl, iteT ?_⟩
      refine ⟨_, rfl, _, _, _, _, _, rfl, ClsV.ty _, ty, kit_ty (by decide +kernel), true, rfl, iteT ?_⟩
      refine ⟨_, rfl, _, rfl, rfl, ?_⟩
      rw [decide_eq_true rfl]
      exact q
    | non n =>
      refine ⟨_, pss_cons (ps_if (PW.pt (pw_or (pt_val (pe_callB call_isi (by rfl) Z.m_isinstance (by decide +kernel) (pa_cons (pv 1) (pa_cons (pe_bltn (u := .type "tuple") (v := .ty "tuple") (by rfl) Z.m_tuple (by decide +kernel) rfl) pa_nil)))) (pw_or1 (pt_val (pe_callB call_isi (by rfl) Z.m_isinstance (by decide +kernel) (pa_cons (pv 1) (pa_cons (pe_bltn (u := .type "list") (v := .ty "list") (by rfl) Z.m_list (by decide +kernel) rfl) pa_nil))))))) (pss_cons ps_never (pss_cons ps_never (pss_cons ps_never (pss_one ps_never)))) pss_nil)
        (pss_cons (ps_if (pt_cmp (pc_isN (pv 1))) (pss_one (ps_ret (pe_cmp (pc_isN (pv 0))))) pss_nil)
        (pss_cons ps_never (pss_cons ps_never (pss_one ps_never)))), ?_⟩
      have ty : TyX K H .non (.type "NoneType") := .base .non
      refine ⟨_, rfl, _, _, _, _, _, rfl, ClsV.ty _, ty, kit_ty (by decide +kernel), false, rfl, iteF ⟨_, rfl, _, _, _, _, _, rfl, ClsV.ty _, ty, kit_ty (by decide +kernel), false, rfl, iteF ?_⟩⟩
      refine ⟨_, rfl, true, rfl, iteT ?_⟩
      exact ⟨_, rfl, q⟩
    | @tup n a b xs ys ha hb hl hm hh =>
      refine ⟨_, pss_cons (ps_if (PW.pt (pw_or (pt_val (pe_callB call_isi (by rfl) Z.m_isinstance (by decide +kernel) (pa_cons (pv 1) (pa_cons (pe_bltn (u := .type "tuple") (v := .ty "tuple") (by rfl) Z.m_tuple (by decide +kernel) rfl) pa_nil)))) (pw_or1 (pt_val (pe_callB call_isi (by rfl) Z.m_isinstance (by decide +kernel) (pa_cons (pv 1) (pa_cons (pe_bltn (u := .type "list") (v := .ty "list") (by rfl) Z.m_list (by decide +kernel) rfl) pa_nil)))))))
        (pss_cons (ps_if (PW.pt (pw_or (pt_cmpR op_ne (pe_callB call_isi (by rfl) Z.m_isinstance (by decide +kernel) (pa_cons (pv 1) (pa_cons (pe_bltn (u := .type "tuple") (v := .ty "tuple") (by rfl) Z.m_tuple (by decide +kernel) rfl) pa_nil))) (pe_callB call_isi (by rfl) Z.m_isinstance (by decide +kernel) (pa_cons (pv 0) (pa_cons (pe_bltn (u := .type "tuple") (v := .ty "tuple") (by rfl) Z.m_tuple (by decide +kernel) rfl) pa_nil))) (nomark _)) (pw_or1 (pt_cmpR op_ne (pe_callB call_isi (by rfl) Z.m_isinstance (by decide +kernel) (pa_cons (pv 1) (pa_cons (pe_bltn (u := .type "list") (v := .ty "list") (by rfl) Z.m_list (by decide +kernel) rfl) pa_nil))) (pe_callB call_isi (by rfl) Z.m_isinstance (by decide +kernel) (pa_cons (pv 0) (pa_cons (pe_bltn (u := .type "list") (v := .ty "list") (by rfl) Z.m_list (by decide +kernel) rfl) pa_nil))) (nomark _))))) (pss_one ps_never) pss_nil)
          (pss_cons (ps_if (pt_cmpR op_ne (pe_callB call_len_seq (by rfl) Z.m_len PySem.boot_len (pa_cons (pv 0) pa_nil)) (pe_callB call_len_seq (by rfl) Z.m_len PySem.boot_len (pa_cons (pv 1) pa_nil)) (nomark _)) (pss_one ps_never) pss_nil)
          (pss_cons (ps_for PassesOwn.never rfl (pi_range1 rfl Z.m_range (pa_cons (pe_callB call_len_seq (by rfl) Z.m_len PySem.boot_len (pa_cons (pv 1) pa_nil)) pa_nil)) (pg_name (i := 2) nd rfl (.inl rfl))
            (pss_one (ps_if (pt_not (pt_val (pe_call (G _ rfl) hr (by rfl) gS F.kp bS .nil pass0 (pa_cons (pe_ix ix_tup (pv 0) (pv 2) (fun _ _ => rfl)) (pa_cons (pe_ix ix_tup (pv 1) (pv 2) (fun _ _ => rfl)) pa_nil))))) (pss_one ps_never) pss_nil)))
          (pss_one (ps_ret pe_bl))))) pss_nil)
        (pss_cons ps_never (pss_cons ps_never (pss_cons ps_never (pss_one ps_never)))), ?_⟩
      have ty0 : TyX K H (.ref a) (.type "tuple") := .base (.tup ha)
      have ty1 : TyX K H (.ref b) (.type "tuple") := .base (.tup hb)
      refine ⟨_, rfl, _, _, _, _, _, rfl, ClsV.ty _, ty1, kit_ty (b := "tuple") (r := true) (by decide +kernel), true, rfl, iteT ?_⟩
      refine ⟨_, rfl, _, _, _, _, _, rfl, ClsV.ty _, ty1, kit_ty (b := "tuple") (r := true) (by decide +kernel), _, rfl, _, _, _, _, _, rfl, ClsV.ty _, ty0, kit_ty (b := "tuple") (r := true) (by decide +kernel), rfl, false, rfl, iteF ⟨_, rfl, _, _, _, _, _, rfl, ClsV.ty _, ty1, kit_ty (b := "list") (r := false) (by decide +kernel), _, rfl, _, _, _, _, _, rfl, ClsV.ty _, ty0, kit_ty (b := "list") (r := false) (by decide +kernel), rfl, false, rfl, iteF ?_⟩⟩
      refine ⟨_, rfl, _, _, rfl, .inr (SqT.of ha), _, rfl, _, _, rfl, .inr (SqT.of hb), rfl, _, rfl, ?_⟩
      rw [hl, decide_eq_true rfl]
      refine iteF ⟨_, rfl, _, _, rfl, .inr (SqT.of hb), _, rfl, by omega, by omega, ?_⟩
      refine for_range (lo := 0) (n := ys.length) (fun i σ H' => H' = H ∧ ∃ y2 : Option V, σ = [some (.ref a), some (.ref b), y2]) ⟨rfl, _, rfl⟩ (fun i σ H' hi hP => ?_) (fun σ H' hP => ?_)
      · obtain ⟨rfl, y2, rfl⟩ := hP
        have g1 : xs[i]? = some xs[i] := List.getElem?_eq_getElem (by omega)
        have g2 : ys[i]? = some ys[i] := List.getElem?_eq_getElem hi
        have e0 : (0 : Int) + (i : Int) = ((i : Nat) : Int) := Int.zero_add _
        rw [e0]
        exact ⟨_, rfl, _, rfl, _, _, _, _, rfl, rfl, SqT.of ha, atI_nat g1, _, rfl, _, rfl, _, _, _, _, rfl, rfl, SqT.of hb, atI_nat g2, _, _, rfl, hh i _ _ g1 g2, true, rfl, iteF ⟨rfl, _, rfl⟩⟩
      · obtain ⟨rfl, y2, rfl⟩ := hP
        exact q
    | @lst n a b xs ys ha hb hl hm hh =>
      refine ⟨_, pss_cons (ps_if (PW.pt (pw_or (pt_val (pe_callB call_isi (by rfl) Z.m_isinstance (by decide +kernel) (pa_cons (pv 1) (pa_cons (pe_bltn (u := .type "tuple") (v := .ty "tuple") (by rfl) Z.m_tuple (by decide +kernel) rfl) pa_nil)))) (pw_or1 (pt_val (pe_callB call_isi (by rfl) Z.m_isinstance (by decide +kernel) (pa_cons (pv 1) (pa_cons (pe_bltn (u := .type "list") (v := .ty "list") (by rfl) Z.m_list (by decide +kernel) rfl) pa_nil)))))))
        (pss_cons (ps_if (PW.pt (pw_or (pt_cmpR op_ne (pe_callB call_isi (by rfl) Z.m_isinstance (by decide +kernel) (pa_cons (pv 1) (pa_cons (pe_bltn (u := .type "tuple") (v := .ty "tuple") (by rfl) Z.m_tuple (by decide +kernel) rfl) pa_nil))) (pe_callB call_isi (by rfl) Z.m_isinstance (by decide +kernel) (pa_cons (pv 0) (pa_cons (pe_bltn (u := .type "tuple") (v := .ty "tuple") (by rfl) Z.m_tuple (by decide +kernel) rfl) pa_nil))) (nomark _)) (pw_or1 (pt_cmpR op_ne (pe_callB call_isi (by rfl) Z.m_isinstance (by decide +kernel) (pa_cons (pv 1) (pa_cons (pe_bltn (u := .type "list") (v := .ty "list") (by rfl) Z.m_list (by decide +kernel) rfl) pa_nil))) (pe_callB call_isi (by rfl) Z.m_isinstance (by decide +kernel) (pa_cons (pv 0) (pa_cons (pe_bltn (u := .type "list") (v := .ty "list") (by rfl) Z.m_list (by decide +kernel) rfl) pa_nil))) (nomark _))))) (pss_one ps_never) pss_nil)
          (pss_cons (ps_if (pt_cmpR op_ne (pe_callB call_len_seq (by rfl) Z.m_len PySem.boot_len (pa_cons (pv 0) pa_nil)) (pe_callB call_len_seq (by rfl) Z.m_len PySem.boot_len (pa_cons (pv 1) pa_nil)) (nomark _)) (pss_one ps_never) pss_nil)
          (pss_cons (ps_for PassesOwn.never rfl (pi_range1 rfl Z.m_range (pa_cons (pe_callB call_len_seq (by rfl) Z.m_len PySem.boot_len (pa_cons (pv 1) pa_nil)) pa_nil)) (pg_name (i := 2) nd rfl (.inl rfl))
            (pss_one (ps_if (pt_not (pt_val (pe_call (G _ rfl) hr (by rfl) gS F.kp bS .nil pass0 (pa_cons (pe_ix ix_list (pv 0) (pv 2) (fun _ _ => rfl)) (pa_cons (pe_ix ix_list (pv 1) (pv 2) (fun _ _ => rfl)) pa_nil))))) (pss_one ps_never) pss_nil)))
          (pss_one (ps_ret pe_bl))))) pss_nil)
        (pss_cons ps_never (pss_cons ps_never (pss_cons ps_never (pss_one ps_never)))), ?_⟩
      have ty0 : TyX K H (.ref a) (.type "list") := .base (.lst ha)
      have ty1 : TyX K H (.ref b) (.type "list") := .base (.lst hb)
      refine ⟨_, rfl, _, _, _, _, _, rfl, ClsV.ty _, ty1, kit_ty (b := "tuple") (r := false) (by decide +kernel), false, rfl, iteF ⟨_, rfl, _, _, _, _, _, rfl, ClsV.ty _, ty1, kit_ty (b := "list") (r := true) (by decide +kernel), true, rfl, iteT ?_⟩⟩
      refine ⟨_, rfl, _, _, _, _, _, rfl, ClsV.ty _, ty1, kit_ty (b := "tuple") (r := false) (by decide +kernel), _, rfl, _, _, _, _, _, rfl, ClsV.ty _, ty0, kit_ty (b := "tuple") (r := false) (by decide +kernel), rfl, false, rfl, iteF ⟨_, rfl, _, _, _, _, _, rfl, ClsV.ty _, ty1, kit_ty (b := "list") (r := true) (by decide +kernel), _, rfl, _, _, _, _, _, rfl, ClsV.ty _, ty0, kit_ty (b := "list") (r := true) (by decide +kernel), rfl, false, rfl, iteF ?_⟩⟩
      refine ⟨_, rfl, _, _, rfl, .inl (SqL.of ha), _, rfl, _, _, rfl, .inl (SqL.of hb), rfl, _, rfl, ?_⟩
      rw [hl, decide_eq_true rfl]
      refine iteF ⟨_, rfl, _, _, rfl, .inl (SqL.of hb), _, rfl, by omega, by omega, ?_⟩
      refine for_range (lo := 0) (n := ys.length) (fun i σ H' => H' = H ∧ ∃ y2 : Option V, σ = [some (.ref a), some (.ref b), y2]) ⟨rfl, _, rfl⟩ (fun i σ H' hi hP => ?_) (fun σ H' hP => ?_)
      · obtain ⟨rfl, y2, rfl⟩ := hP
        have g1 : xs[i]? = some xs[i] := List.getElem?_eq_getElem (by omega)
        have g2 : ys[i]? = some ys[i] := List.getElem?_eq_getElem hi
        have e0 : (0 : Int) + (i : Int) = ((i : Nat) : Int) := Int.zero_add _
        rw [e0]
        exact ⟨_, rfl, _, rfl, _, _, _, _, rfl, rfl, SqL.of ha, atI_nat g1, _, rfl, _, rfl, _, _, _, _, rfl, rfl, SqL.of hb, atI_nat g2, _, _, rfl, hh i _ _ g1 g2, true, rfl, iteF ⟨rfl, _, rfl⟩⟩
      · obtain ⟨rfl, y2, rfl⟩ := hP
        exact q

/-- all but p is as it was, and there may be more -/
def Keep (p : Addr) (H H' : Hp) : Prop := ∀ x o, x ≠ p → H x = some o → H' x = some o
theorem But.keep {p : Addr} {H H' : Hp} (h : But p H H') : Keep p H H' := fun x o n e => (h.1 x n).trans e
theorem Keep.trans {p : Addr} {H H1 H2 : Hp} (a : Keep p H H1) (b : Keep p H1 H2) : Keep p H H2 := fun x o n e => b x o n (a x o n e)
theorem Keep.refl (p : Addr) (H : Hp) : Keep p H H := fun _ _ _ e => e
theorem Same.keep {p : Addr} {H H' : Hp} (h : Same H H') : Keep p H H' := fun x o _ e => h x o e
theorem Pl.lst {H : Hp} {p : Addr} (h : Pl H p) : ∃ xs, H p = some (.lst xs) := by
  obtain ⟨q, ns, a, b, c, d, e, _⟩ := h
  exact ⟨_, e⟩
theorem Pl.ne {H : Hp} {p x : Addr} {ys : List V} (h : Pl H p) (hx : H x = some (.tup ys)) : x ≠ p := by
  obtain ⟨xs, e⟩ := h.lst
  exact ne_of hx e (fun z => nomatch z)
theorem Pl.same {H H' : Hp} {p : Addr} (h : Pl H p) (s : Same H H') : Pl H' p := by
  obtain ⟨q, ns, a, b, c, d, e, e2, n⟩ := h
  exact ⟨q, ns, a, b, c, d, s _ _ e, s _ _ e2, n⟩
/-- a pool whose list stands at q -/
def Plq (H : Hp) (p q : Addr) : Prop := ∃ (ns : List Int) (a : Nat) (b c d : Int), H p = some (.lst [.ref q, .int a, .int b, .int c, .int d]) ∧ H q = some (.lst (ns.map V.int)) ∧ q ≠ p
theorem Pl.q {H : Hp} {p : Addr} (h : Pl H p) : ∃ q, Plq H p q := h
theorem Plq.pl {H : Hp} {p q : Addr} (h : Plq H p q) : Pl H p := ⟨q, h⟩
theorem Plq.but {H H' : Hp} {p q : Addr} (h : Plq H p q) (hB : But p H H') (h' : Pl H' p) : Plq H' p q := by
  obtain ⟨ns, a, b, c, d, e, e2, n⟩ := h
  obtain ⟨l, hl⟩ := hB.2 q ⟨_, e⟩
  obtain ⟨q2, ns2, a2, b2, c2, d2, f, f2, n2⟩ := h'
  have := hl.symm.trans f
  injection this with this
  injection this with this
  injection this with this
  injection this with this
  subst this
  exact ⟨ns2, a2, b2, c2, d2, f, f2, n2⟩
theorem Plq.upd {H : Hp} {p q D : Addr} {o : HO} (h : Plq H p q) (h1 : p ≠ D) (h2 : q ≠ D) : Plq (upd H D o) p q := by
  obtain ⟨ns, a, b, c, d, e, e2, n⟩ := h
  exact ⟨ns, a, b, c, d, by rw [upd_ne h1]; exact e, by rw [upd_ne h2]; exact e2, n⟩
theorem Plq.same {H H' : Hp} {p q : Addr} (h : Plq H p q) (s : Same H H') : Plq H' p q := by
  obtain ⟨ns, a, b, c, d, e, e2, n⟩ := h
  exact ⟨ns, a, b, c, d, s _ _ e, s _ _ e2, n⟩
theorem Plq.ne_free {H : Hp} {p q D : Addr} (h : Plq H p q) (n : H D = none) : p ≠ D ∧ q ≠ D := by
  obtain ⟨ns, a, b, c, d, e, e2, _⟩ := h
  exact ⟨ne_of_none e n, ne_of_none e2 n⟩

theorem cmul {x y : Int} {a b : Nat} (ha : x.natAbs < 2 ^ a) (hb : y.natAbs < 2 ^ b) (h0 : 0 < a := by decide) (h1 : 0 < b := by decide) (h : a + b ≤ 1000000 := by decide) : CMulW x y := wide_mul ha hb h0 h1 h

/-! ### vectors: tuples of ints -/
/-- the greatest common divisor of a list -/
def gl (ns : List Int) : Int := ns.foldl g2 0
theorem g2_max {c x : Int} {B : Nat} (hc : c.natAbs < B) (hx : x.natAbs < B) : (g2 c x).natAbs < B := by
  by_cases h : x = 0
  · subst h
    unfold g2
    rw [show (0 : Int).natAbs = 0 from rfl, Nat.gcd_zero_right]
    omega
  · exact Nat.lt_of_le_of_lt (g2_le h) hx
theorem g2_nn (a b : Int) : 0 ≤ g2 a b := by
  unfold g2
  omega
theorem gl_step {ns : List Int} {i : Nat} {x : Int} (h : ns[i]? = some x) : gl (ns.take (i + 1)) = g2 (gl (ns.take i)) x := by
  unfold gl
  rw [List.take_add_one, h, List.foldl_append]
  rfl
theorem gl_lim {ns : List Int} {B : Nat} (h0 : 0 < B) (h : ∀ n ∈ ns, n.natAbs < B) : (gl ns).natAbs < B := by
  unfold gl
  have : ∀ (l : List Int) (c : Int), c.natAbs < B → (∀ n ∈ l, n.natAbs < B) → (l.foldl g2 c).natAbs < B := by
    intro l
    induction l with
    | nil => intro c hc _; exact hc
    | cons x r ih =>
      intro c hc hl
      exact ih _ (g2_max hc (hl x List.mem_cons_self)) fun n hn => hl n (List.mem_cons_of_mem _ hn)
  exact this ns 0 (by show 0 < B; exact h0) h
theorem gl_nn (ns : List Int) : 0 ≤ gl ns := by
  unfold gl
  have : ∀ (l : List Int) (c : Int), 0 ≤ c → 0 ≤ l.foldl g2 c := by
    intro l
    induction l with
    | nil => intro c hc; exact hc
    | cons x r ih => intro c _; exact ih _ (g2_nn _ _)
  exact this ns 0 (Int.le_refl 0)
theorem gl_take_lim {ns : List Int} {B i : Nat} (h0 : 0 < B) (h : ∀ n ∈ ns, n.natAbs < B) : (gl (ns.take i)).natAbs < B := gl_lim h0 fun n hn => h n (List.mem_of_mem_take hn)
def prim (ns : List Int) : List Int := if gl ns = 0 then ns else ns.map (· / gl ns)
def dotz (ns ms : List Int) : List Int := (ns.zip ms).map fun p => p.1 * p.2
theorem prim_len (ns : List Int) : (prim ns).length = ns.length := by
  unfold prim
  split
  · rfl
  · rw [List.length_map]
theorem map_get {ns : List Int} {i : Nat} {x : V} (h : (ns.map V.int)[i]? = some x) : ∃ n, ns[i]? = some n ∧ x = .int n := by
  rw [List.getElem?_map] at h
  cases e : ns[i]? with
  | none => rw [e] at h; cases h
  | some n => rw [e] at h; exact ⟨n, rfl, (Option.some.inj h).symm⟩
theorem get_map {ns : List Int} {i : Nat} {n : Int} (h : ns[i]? = some n) : (ns.map V.int)[i]? = some (.int n) := by
  rw [List.getElem?_map, h]
  rfl
theorem lt_of_get {α : Type} {xs : List α} {i : Nat} {x : α} (h : xs[i]? = some x) : i < xs.length := (List.getElem?_eq_some_iff.mp h).1
/-- the vector at a -/
def Vc (H : Hp) (a : Addr) (ns : List Int) : Prop := H a = some (.tup (ns.map V.int))
theorem vc_alike {H : Hp} {a b : Addr} {ns : List Int} (n : Nat) (ha : Vc H a ns) (hb : Vc H b ns) (hl : ns.length ≤ 1000) : Alike H (n + 1) (.ref a) (.ref b) :=
  .tup ha hb rfl (by rw [List.length_map]; omega) fun i x y h1 h2 => by
    have e := Option.some.inj (h1.symm.trans h2)
    subst e
    obtain ⟨m, _, rfl⟩ := map_get h1
    exact .int n m
theorem Vc.ne {H : Hp} {p a : Addr} {ns : List Int} (h : Vc H a ns) (hp : Pl H p) : a ≠ p := hp.ne h
theorem Vc.keep {H H' : Hp} {p a : Addr} {ns : List Int} (h : Vc H a ns) (hp : Pl H p) (k : Keep p H H') : Vc H' a ns := k _ _ (h.ne hp) h
theorem Vc.same {H H' : Hp} {a : Addr} {ns : List Int} (h : Vc H a ns) (k : Same H H') : Vc H' a ns := k _ _ h
theorem dotz_get {ns ms : List Int} {i : Nat} {x y : Int} (h1 : ns[i]? = some x) (h2 : ms[i]? = some y) : (dotz ns ms)[i]? = some (x * y) := by
  unfold dotz
  rw [List.getElem?_map, List.getElem?_zip_eq_some (z := (x, y)) |>.mpr ⟨h1, h2⟩]
  rfl
theorem dotz_len {ns ms : List Int} (h : ns.length = ms.length) : (dotz ns ms).length = ns.length := by
  unfold dotz
  rw [List.length_map, List.length_zip, h, Nat.min_self]
theorem take_get {α : Type} {xs : List α} {i : Nat} {x : α} (h : xs[i]? = some x) : xs.take (i + 1) = xs.take i ++ [x] := by
  rw [List.take_add_one, h]
  rfl

/-! ### walks of a list or a tuple -/
section
variable {X : Cx}
theorem PI.or {tg iter : Expr} {w1 w2 : TI} (h1 : PI X tg iter w1) (h2 : PI X tg iter w2) : PI X tg iter (fun σ H R => w1 σ H R ∨ w2 σ H R) := ⟨fun pins s σ H R I h => by
  rcases h with h | h
  · exact h1.run pins s σ H R I h
  · exact h2.run pins s σ H R I h⟩
theorem OpR.or {f : Value → Value → Sem Value} {r1 r2 : R2} (h1 : OpR X f r1) (h2 : OpR X f r2) : OpR X f (fun x y H Q => r1 x y H Q ∨ r2 x y H Q) := by
  intro pins s σ H x y v u Q I rx ry q
  rcases q with q | q
  · exact h1 pins s σ H x y v u Q I rx ry q
  · exact h2 pins s σ H x y v u Q I rx ry q
end

/-- at a stands a tuple (true) or a list -/
def Tk (k : Bool) (H : Hp) (a : Addr) (xs : List V) : Prop := match k with
  | true => H a = some (.tup xs)
  | false => H a = some (.lst xs)
theorem Tk.same {k : Bool} {H H' : Hp} {a : Addr} {xs : List V} (h : Tk k H a xs) (s : Same H H') : Tk k H' a xs := by
  cases k <;> exact s _ _ h
theorem Tk.sk {K : PySem.W.Frag} {k : Bool} {H : Hp} {a : Addr} {xs : List V} (h : Tk k H a xs) : Sk K k H a xs := by
  cases k with
  | true => exact SqT.of h
  | false => exact SqL.of h
abbrev s__law_prim : Stmt := topS 27
theorem sc__law_prim : FnScope ["v", "common", "a"] ["v"] (defScope s__law_prim) := ⟨rfl, rfl, rfl, by decide +kernel, rfl, by decide +kernel, by decide +kernel⟩
def spPrimK : Sp := fun vs H Q _ => ∃ (k : Bool) (a : Addr) (ns : List Int), vs = [.ref a] ∧ Tk k H a (ns.map V.int) ∧ ns.length ≤ 1000 ∧ (∀ n ∈ ns, n.natAbs < 2 ^ 299) ∧ ∀ (H' : Hp) (r : Addr), Same H H' → Vc H' r (prim ns) → Q (.ref r) H'
theorem ok_lprimK {f : Addr} {fd : FuncData} {k : Nat} (F : Fun K "_law_prim" "_law_prim" s__law_prim f fd) (Z : Glb mg)
    (C_law_gcd : Call P w K mg base k "_law_gcd" ["a", "b"] spGcd) : FnOk P w K mg base CX0 (k + 1) f fd ["v"] spPrimK := by
  refine F.ok sc__law_prim (fun vs H Q E h => ?_) (fun cdv A outer s H vs Q E hr h => ?_)
  · obtain ⟨kd, a, ns, rfl, _⟩ := h
    rfl
  · obtain ⟨kd, a, ns, rfl, hv, hl, hB, q⟩ := h
    refine ⟨_, (pss_cons (ps_set (i := 1) sc__law_prim.nd rfl (.inr rfl) pe_int)
      (pss_cut (ps_for PassesOwn.never rfl (PI.or (pi_list (pv 0)) (pi_tup (pv 0))) (pg_name (i := 2) sc__law_prim.nd rfl (.inl rfl)) (pss_one (ps_set (i := 1) sc__law_prim.nd rfl (.inr rfl) (pe_call C_law_gcd.G hr (by rfl) C_law_gcd.m C_law_gcd.kp C_law_gcd.b .nil pass0 (pa_cons (pv 1) (pa_cons (pv 2) pa_nil))))))
      (pss_cons (ps_if (pt_cmpR op_eq (pv 1) pe_int (nomark _)) (pss_one (ps_ret (pe_callTy call_tuple_of (by rfl) Z.m_tuple (by decide +kernel) (pa_cons (pv 0) pa_nil)))) pss_nil)
      (pss_one (ps_ret (pe_callTy call_tuple_of (by rfl) Z.m_tuple (by decide +kernel) (pa_cons (pe_lc (own := [("a", 2)]) (g := gName 2) (tt := tYes) (by rfl) sc__law_prim.nd (PI.or (pi_list (pv 0)) (pi_tup (pv 0))) (blkOk_by (own := [("a", 2)]) (N := ["v", "common", "a"]) (sc := defScope s__law_prim) (by first | decide +kernel | kernel_rfl)) (fun _ _ _ _ _ => (pg_name (i := 2) sc__law_prim.nd rfl (.inl rfl))) (fun _ _ _ _ _ => pts_nil) (fun _ _ _ _ _ => (pe_op op_fdivW (pv 2) (pv 1)))) pa_nil))))))), ?_⟩
    -- common
    refine ⟨fun σ H' => ∃ y2 : Option V, H = H' ∧ σ = [some (.ref a), some (.int (gl ns)), y2], ?_, ?_⟩
    · cases kd with
      | true =>
        refine .inr ⟨_, rfl, a, rfl, ⟨_, SqT.of hv⟩, ?_⟩
        refine for_tup (xs := ns.map V.int) (fun i σ H' => H = H' ∧ ∃ y2 : Option V, σ = [some (.ref a), some (.int (gl (ns.take i))), y2]) ⟨rfl, _, rfl⟩ (fun i σ H' _ hP => by obtain ⟨rfl, _⟩ := hP; exact SqT.of hv) (fun i x σ H' hx hP => ?_) (fun σ H' hP => ?_)
        · obtain ⟨rfl, y2, rfl⟩ := hP
          obtain ⟨n, hn, rfl⟩ := map_get hx
          refine ⟨_, rfl, _, rfl, _, _, rfl, gl_take_lim (by decide) hB, hB n (List.mem_of_getElem? hn), rfl, some (.int n), ?_⟩
          rw [gl_step hn]
          rfl
        · obtain ⟨rfl, y2, rfl⟩ := hP
          rw [List.length_map, List.take_length]
          exact ⟨_, rfl, rfl⟩
      | false =>
        refine .inl ⟨_, rfl, a, rfl, ⟨_, SqL.of hv⟩, ?_⟩
        refine for_list (xs := ns.map V.int) (fun i σ H' => H = H' ∧ ∃ y2 : Option V, σ = [some (.ref a), some (.int (gl (ns.take i))), y2]) ⟨rfl, _, rfl⟩ (fun i σ H' _ hP => by obtain ⟨rfl, _⟩ := hP; exact SqL.of hv) (fun i x σ H' hx hP => ?_) (fun σ H' hP => ?_)
        · obtain ⟨rfl, y2, rfl⟩ := hP
          obtain ⟨n, hn, rfl⟩ := map_get hx
          refine ⟨_, rfl, _, rfl, _, _, rfl, gl_take_lim (by decide) hB, hB n (List.mem_of_getElem? hn), rfl, some (.int n), ?_⟩
          rw [gl_step hn]
          rfl
        · obtain ⟨rfl, y2, rfl⟩ := hP
          rw [List.length_map, List.take_length]
          exact ⟨_, rfl, rfl⟩
    intro σ H' hW
    obtain ⟨y2, rfl, rfl⟩ := hW
    refine ⟨_, rfl, rfl, _, rfl, ite2 (fun e => ?_) (fun e => ?_)⟩
    · have e0 : gl ns = 0 := V.int.inj (of_decide_eq_true e)
      have ep : prim ns = ns := if_pos e0
      refine ⟨_, rfl, a, ns.map V.int, rfl, ?_⟩
      cases kd with
      | true =>
        refine .inr ⟨SqT.of hv, q _ _ (Same.refl _) ?_⟩
        rw [ep]
        exact hv
      | false =>
        refine .inl ⟨SqL.of hv, fun l nl => q _ _ (same_upd nl) ?_⟩
        rw [ep]
        exact upd_same
    · have e0 : gl ns ≠ 0 := fun z => e (decide_eq_true (by rw [z]))
      have ep : prim ns = ns.map (· / gl ns) := if_neg e0
      have cd : ∀ x : Int, CDivW x (gl ns) := fun x => wide_div (by have := gl_nn ns; omega) (gl_lim (by decide) hB) (by decide) (by decide)
      have room : ∀ i, (((prim ns).take i).map V.int).length < sizeLine := fun i => by
        rw [List.length_map, List.length_take]
        exact Nat.lt_of_le_of_lt (Nat.min_le_right _ _) (small1000 (by rw [prim_len]; exact hl))
      have next : ∀ (i : Nat) (n : Int) (H0 : Hp) (D : Addr), ns[i]? = some n → upd (upd H0 D (.lst (((prim ns).take i).map V.int))) D (.lst (((prim ns).take i).map V.int ++ [.int (n / gl ns)])) = upd H0 D (.lst (((prim ns).take (i + 1)).map V.int)) := fun i n H0 D hn => by
        have hg : (prim ns)[i]? = some (n / gl ns) := by
          rw [ep, List.getElem?_map, hn]
          rfl
        rw [upd_upd, take_get hg, List.map_append]
        rfl
      have last : ∀ (D : Addr) (H' : Hp), (∃ H0, Same H H0 ∧ H0 D = none ∧ H' = upd H0 D (.lst (((prim ns).take (ns.map V.int).length).map V.int))) →
          ∃ p ys, [V.ref D] = [.ref p] ∧ ((SqL K H' p ys ∧ ∀ l, H' l = none → Q (.ref l) (upd H' l (.tup ys))) ∨ (SqT K H' p ys ∧ Q (.ref p) H')) := fun D H' h => by
        obtain ⟨H0, s0, n0, rfl⟩ := h
        rw [List.length_map, show ns.length = (prim ns).length from (prim_len ns).symm, List.take_length]
        exact ⟨D, _, rfl, .inl ⟨SqL.of upd_same, fun l nl => q _ _ ((s0.trans (same_upd n0)).trans (same_upd nl)) upd_same⟩⟩
      cases kd with
      | true =>
        refine .inr ⟨_, rfl, a, rfl, ⟨_, SqT.of hv⟩, fun D nD => ?_⟩
        refine lc_tup (xs := ns.map V.int) (fun i H' => ∃ H0, Same H H0 ∧ H0 D = none ∧ H' = upd H0 D (.lst (((prim ns).take i).map V.int))) ⟨H, Same.refl _, nD, rfl⟩ (fun i H' _ hP => ?_) (fun i x H' hx hP => ?_) (fun H' hP => ?_)
        · obtain ⟨H0, s0, n0, rfl⟩ := hP
          exact SqT.of ((s0.trans (same_upd n0)) _ _ hv)
        · obtain ⟨H0, s0, n0, rfl⟩ := hP
          obtain ⟨n, hn, rfl⟩ := map_get hx
          refine ⟨rfl, ?_⟩
          unfold tYes
          refine iteT ?_
          exact ⟨_, rfl, _, rfl, _, _, rfl, rfl, cd n, _, upd_same, room i, H0, s0, n0, next i n H0 D hn⟩
        · exact last D H' hP
      | false =>
        refine .inl ⟨_, rfl, a, rfl, ⟨_, SqL.of hv⟩, fun D nD => ?_⟩
        refine lc_list (xs := ns.map V.int) (fun i H' => ∃ H0, Same H H0 ∧ H0 D = none ∧ H' = upd H0 D (.lst (((prim ns).take i).map V.int))) ⟨H, Same.refl _, nD, rfl⟩ (fun i H' _ hP => ?_) (fun i x H' hx hP => ?_) (fun H' hP => ?_)
        · obtain ⟨H0, s0, n0, rfl⟩ := hP
          exact SqL.of ((s0.trans (same_upd n0)) _ _ hv)
        · obtain ⟨H0, s0, n0, rfl⟩ := hP
          obtain ⟨n, hn, rfl⟩ := map_get hx
          refine ⟨rfl, ?_⟩
          unfold tYes
          refine iteT ?_
          exact ⟨_, rfl, _, rfl, _, _, rfl, rfl, cd n, _, upd_same, room i, H0, s0, n0, next i n H0 D hn⟩
        · exact last D H' hP

/-! ### fractions with positive divisors -/
/-- r holds the pair n, d, d > 0, both below 2 ^ B -/
def Fr (H : Hp) (r : Addr) (n d : Int) (B : Nat) : Prop := H r = some (.tup [.int n, .int d]) ∧ 0 < d ∧ n.natAbs < 2 ^ B ∧ d.natAbs < 2 ^ B
theorem Fr.up {H : Hp} {r : Addr} {n d : Int} {B C : Nat} (h : Fr H r n d B) (l : B ≤ C) : Fr H r n d C := ⟨h.1, h.2.1, up_pow h.2.2.1 l, up_pow h.2.2.2 l⟩
theorem Fr.mk {H : Hp} {p : Addr} {a b : Int} {B : Nat} (hb : 0 < b) (ha : a.natAbs < 2 ^ B) (hb2 : b.natAbs < 2 ^ B) : Fr (upd H p (.tup [.int (frN a b), .int (frD a b)])) p (frN a b) (frD a b) B :=
  ⟨upd_same, frD_pos hb, Nat.lt_of_le_of_lt (frN_abs (by omega)) ha, Nat.lt_of_le_of_lt (frD_abs (by omega)) hb2⟩
theorem Fr.same {H H' : Hp} {r : Addr} {n d : Int} {B : Nat} (h : Fr H r n d B) (s : Same H H') : Fr H' r n d B := ⟨s _ _ h.1, h.2⟩
theorem ints2 (a b : Int) : [V.int a, V.int b].length ≤ sizeLine := Nat.le_of_lt (small1000 (show 2 ≤ 1000 by decide))
theorem g2_lim {a b : Int} (hb : 0 < b) (hb2 : b.natAbs < 2 ^ 299) : (g2 a b).natAbs < 2 ^ 299 := Nat.lt_of_le_of_lt (g2_le (by omega)) hb2
def spFr : Sp := fun vs H Q _ => ∃ a b : Int, vs = [.int a, .int b] ∧ 0 < b ∧ a.natAbs < 2 ^ 299 ∧ b.natAbs < 2 ^ 299 ∧ ∀ p, H p = none → Q (.ref p) (upd H p (.tup [.int (frN a b), .int (frD a b)]))

abbrev s__law_frac : Stmt := topS 26
theorem sc__law_frac : FnScope ["a", "b", "common"] ["a", "b"] (defScope s__law_frac) := ⟨rfl, rfl, rfl, by decide +kernel, rfl, by decide +kernel, by decide +kernel⟩
theorem ok_lfrac {f : Addr} {fd : FuncData} {k : Nat} (F : Fun K "_law_frac" "_law_frac" s__law_frac f fd) (Z : Glb mg)
    (C_law_gcd : Call P w K mg base k "_law_gcd" ["a", "b"] spGcd) : FnOk P w K mg base CX0 (k + 1) f fd ["a", "b"] spFr := by
  refine F.ok sc__law_frac (fun vs H Q E h => ?_) (fun cdv A outer s H vs Q E hr h => ?_)
  · obtain ⟨a, b, rfl, _⟩ := h
    rfl
  · obtain ⟨a, b, rfl, hp, ha, hb, q⟩ := h
    refine ⟨_, (pss_cons (ps_set (i := 2) sc__law_frac.nd rfl (.inl rfl) (pe_call C_law_gcd.G hr (by rfl) C_law_gcd.m C_law_gcd.kp C_law_gcd.b .nil pass0 (pa_cons (pv 0) (pa_cons (pv 1) pa_nil))))
      (pss_cons (ps_if (pt_cmpR op_lt (pv 1) pe_int (nomark _)) (pss_one ps_never) pss_nil)
      (pss_one (ps_ret (pe_tup (pa_cons (pe_op op_fdivW (pv 0) (pv 2)) (pa_cons (pe_op op_fdivW (pv 1) (pv 2)) pa_nil))))))), ?_⟩
    have cd : CDivW b (g2 a b) := wide_div (g2_pos (by omega)) (g2_lim hp hb) (by decide) (by decide)
    refine ⟨_, rfl, _, rfl, a, b, rfl, ha, hb, _, rfl, _, _, rfl, rfl, _, rfl, ?_⟩
    rw [decide_eq_false (by omega)]
    exact iteF ⟨_, rfl, _, rfl, _, _, rfl, rfl, cd, _, rfl, _, rfl, _, _, rfl, rfl, cd, ints2 _ _, q⟩

/-- two fractions: what the function puts together of their entries -/
def spTwo (g : Int → Int → Int → Int → Int × Int) : Sp := fun vs H Q _ => ∃ (x y : Addr) (a b c d : Int), vs = [.ref x, .ref y] ∧ Fr H x a b 140 ∧ Fr H y c d 140 ∧
  ∀ p, H p = none → Q (.ref p) (upd H p (.tup [.int (frN (g a b c d).1 (g a b c d).2), .int (frD (g a b c d).1 (g a b c d).2)]))

/-- all but p stands, and p has its head -/
structure Kp (p : Addr) (H H' : Hp) : Prop where
  k : Keep p H H'
  h : ∀ q, Hd H p q → Hd H' p q
theorem But.kp {p : Addr} {H H' : Hp} (h : But p H H') : Kp p H H' := ⟨h.keep, h.2⟩
theorem Same.kp {p : Addr} {H H' : Hp} (h : Same H H') : Kp p H H' := ⟨Same.keep h, fun q ⟨l, e⟩ => ⟨l, h _ _ e⟩⟩
theorem Kp.trans {p : Addr} {H H1 H2 : Hp} (a : Kp p H H1) (b : Kp p H1 H2) : Kp p H H2 := ⟨a.k.trans b.k, fun q h => b.h q (a.h q h)⟩
theorem Plq.hd {H : Hp} {p q : Addr} (h : Plq H p q) : Hd H p q := by
  obtain ⟨ns, a, b, c, d, e, _⟩ := h
  exact ⟨_, e⟩
theorem hd_inj {H : Hp} {p q r : Addr} (h : Hd H p q) (h' : Hd H p r) : q = r := by
  obtain ⟨l, e⟩ := h
  obtain ⟨l', e'⟩ := h'
  have := e.symm.trans e'
  injection this with this
  injection this with this
  injection this with this
  injection this
theorem Plq.kp {H H' : Hp} {p q : Addr} (h : Plq H p q) (k : Kp p H H') (h' : Pl H' p) : Plq H' p q := by
  obtain ⟨q2, e⟩ := h'.q
  rw [hd_inj (k.h _ h.hd) e.hd]
  exact e
/-- a comprehension over range whose turn draws: what it leaves -/
def Dr (p : Addr) (H : Hp) (D : Addr) (B : Nat) (i : Nat) (H' : Hp) : Prop := (∃ q, Plq H p q ∧ Plq H' p q ∧ q ≠ D) ∧ Keep p H H' ∧ ∃ ns : List Int, H' D = some (.lst (ns.map V.int)) ∧ ns.length = i ∧ ∀ n ∈ ns, n.natAbs < 2 ^ B
theorem dr0 {p D : Addr} {H : Hp} {B : Nat} (hp : Pl H p) (nD : H D = none) : Dr p H D B 0 (upd H D (.lst [])) := by
  obtain ⟨q, hq⟩ := hp.q
  exact ⟨⟨q, hq, hq.same (same_upd nD), (hq.ne_free nD).2⟩, Same.keep (same_upd nD), [], upd_same, rfl, fun n h => nomatch h⟩
theorem dr_step {p D : Addr} {H H' H2 : Hp} {B i : Nat} {n : Int} (nD : H D = none) (hP : Pl H p) (h : Dr p H D B i H') (hB : But p H' H2) (P2 : Pl H2 p) (hn : n.natAbs < 2 ^ B) :
    ∃ acc, H2 D = some (.lst acc) ∧ acc.length = i ∧ Dr p H D B (i + 1) (upd H2 D (.lst (acc ++ [.int n]))) := by
  obtain ⟨⟨q, hq0, hq, qD⟩, K1, ns, e, hl, hb⟩ := h
  have ne : D ≠ p := by
    obtain ⟨q0, h0⟩ := hP.q
    exact (h0.ne_free nD).1.symm
  refine ⟨ns.map V.int, (hB.1 D ne).trans e, by rw [List.length_map]; exact hl, ⟨q, hq0, (hq.but hB P2).upd ne.symm qD, qD⟩, ?_, ns ++ [n], ?_, ?_, ?_⟩
  · intro x o hx ho
    have hxD : x ≠ D := ne_of_none ho nD
    rw [upd_ne hxD]
    exact hB.keep _ _ hx (K1 _ _ hx ho)
  · rw [upd_same, List.map_append]
    rfl
  · rw [List.length_append, hl]
    rfl
  · intro m hm
    rcases List.mem_append.mp hm with h | h
    · exact hb m h
    · rw [List.mem_singleton.mp h]
      exact hn
theorem Dr.kp {p D : Addr} {H H' : Hp} {B i : Nat} (h : Dr p H D B i H') : Kp p H H' := by
  obtain ⟨⟨q, h1, h2, _⟩, k, _⟩ := h
  exact ⟨k, fun q' hq => by rw [hd_inj hq h1.hd]; exact h2.hd⟩

abbrev s__law_point : Stmt := topS 29
theorem sc__law_point : FnScope ["pool", "d", "most", "below", "k"] ["pool", "d", "most"] (defScope s__law_point) := ⟨rfl, rfl, rfl, by decide +kernel, rfl, by decide +kernel, by decide +kernel⟩
theorem gl_dvd {ns : List Int} {n : Int} (h : n ∈ ns) : gl ns ∣ n := by
  unfold gl
  have : ∀ (l : List Int) (c : Int), (l.foldl g2 c) ∣ c ∧ ∀ n ∈ l, (l.foldl g2 c) ∣ n := by
    intro l
    induction l with
    | nil => intro c; exact ⟨Int.dvd_refl _, fun n h => nomatch h⟩
    | cons x r ih =>
      intro c
      obtain ⟨h1, h2⟩ := ih (g2 c x)
      refine ⟨Int.dvd_trans h1 (g2_dvd_l c x), fun n hn => ?_⟩
      rcases List.mem_cons.mp hn with rfl | hn
      · exact Int.dvd_trans h1 (g2_dvd_r c n)
      · exact h2 n hn
  exact (this ns 0).2 n h
theorem gl_pos {ns : List Int} {n : Int} (h : n ∈ ns) (hn : n ≠ 0) : 0 < gl ns := by
  have h1 := gl_nn ns
  have h2 : gl ns ≠ 0 := fun z => by
    have := gl_dvd h
    rw [z] at this
    exact hn (Int.zero_dvd.mp this)
  omega
theorem prim_get {ns : List Int} {i : Nat} {n : Int} (h : ns[i]? = some n) (g : 0 < gl ns) : (prim ns)[i]? = some (n / gl ns) := by
  unfold prim
  rw [if_neg (by omega), List.getElem?_map, h]
  rfl
theorem prim_small {ns : List Int} {B : Nat} (h : ∀ n ∈ ns, n.natAbs ≤ B) : ∀ n ∈ prim ns, n.natAbs ≤ B := by
  unfold prim
  split
  · exact h
  · rename_i g
    intro n hn
    obtain ⟨m, hm, rfl⟩ := List.mem_map.mp hn
    exact Nat.le_trans (ediv_abs (by have := gl_nn ns; omega)) (h m hm)
def spPoint : Sp := fun vs H Q _ => ∃ (p : Addr) (d : Nat) (m : Int), vs = [.ref p, .int d, .int m] ∧ d ≤ 10 ∧ 1 ≤ m ∧ m ≤ 5 ∧ Pl H p ∧ ∀ (H' : Hp) (r : Addr) (ns : List Int), Pl H' p → Kp p H H' → Vc H' r ns → ns.length = d + 1 → (∀ n ∈ ns, n.natAbs ≤ 3) → (∃ w, ns[0]? = some w ∧ 0 < w) → Q (.ref r) H'
theorem ok_point {f : Addr} {fd : FuncData} {k : Nat} (F : Fun K "_law_point" "_law_point" s__law_point f fd) (Z : Glb mg)
    (C_law_draw : Call P w K mg base k "_law_draw" ["pool", "many"] spDraw)
    (C_law_prim : Call P w K mg base k "_law_prim" ["v"] spPrimK) : FnOk P w K mg base CX0 (k + 1) f fd ["pool", "d", "most"] spPoint := by
  refine F.ok sc__law_point (fun vs H Q E h => ?_) (fun cdv A outer s H vs Q E hr h => ?_)
  · obtain ⟨p, d, m, rfl, _⟩ := h
    rfl
  · obtain ⟨p, d, m, rfl, hd, m1, m5, hP, q⟩ := h
    refine ⟨_, (pss_cons (ps_set (i := 3) sc__law_point.nd rfl (.inl rfl) (pe_ix (r := rIxL K) ix_list (pe_lst (pa_cons pe_int (pa_cons pe_int (pa_cons pe_int (pa_cons pe_int (pa_cons pe_int pa_nil)))))) (pe_call C_law_draw.G hr (by rfl) C_law_draw.m C_law_draw.kp C_law_draw.b .nil pass0 (pa_cons (pv 0) (pa_cons (pv 2) pa_nil))) (fun _ _ => rfl)))
      (pss_one (ps_ret (pe_call C_law_prim.G hr (by rfl) C_law_prim.m C_law_prim.kp C_law_prim.b .nil pass0 (pa_cons (pe_op op_cat (pe_lst (pa_cons (pv 3) pa_nil)) (pe_lc (own := [("k", 4)]) (g := gName 4) (tt := tYes) (by rfl) sc__law_point.nd (pi_range1 rfl Z.m_range (pa_cons (pv 1) pa_nil)) (blkOk_by (own := [("k", 4)]) (N := ["pool", "d", "most", "below", "k"]) (sc := defScope s__law_point) (by first | decide +kernel | kernel_rfl)) (fun _ _ _ _ _ => (pg_name (i := 4) sc__law_point.nd rfl (.inl rfl))) (fun _ _ _ _ _ => pts_nil) (fun _ _ _ _ _ => (pe_op op_sub (pe_call C_law_draw.G hr (by rfl) C_law_draw.m C_law_draw.kp C_law_draw.b .nil pass0 (pa_cons (pv 0) (pa_cons pe_int pa_nil))) pe_int)))) pa_nil))))), ?_⟩
    refine ⟨Nat.le_of_lt (small1000 (show 5 ≤ 1000 by decide)), fun l nl => ?_⟩
    refine ⟨_, rfl, _, rfl, p, m, rfl, by omega, Nat.lt_of_le_of_lt (show m.natAbs ≤ 5 by omega) (by decide), hP.same (same_upd nl), fun v H1 l1 u1 P1 B1 => ?_⟩
    have lp : l ≠ p := by
      obtain ⟨q0, h0⟩ := hP.q
      exact (h0.ne_free nl).1.symm
    have hl := (B1.1 l lp).trans upd_same
    obtain ⟨b, hat, hb1, hb3⟩ : ∃ b : Int, atI [V.int 1, V.int 1, V.int 1, V.int 2, V.int 3] v = some (.int b) ∧ 0 < b ∧ b ≤ 3 := by
      have hv : v = 0 ∨ v = 1 ∨ v = 2 ∨ v = 3 ∨ v = 4 := by omega
      rcases hv with rfl | rfl | rfl | rfl | rfl
      · exact ⟨1, atI_nat (j := 0) rfl, by decide, by decide⟩
      · exact ⟨1, atI_nat (j := 1) rfl, by decide, by decide⟩
      · exact ⟨1, atI_nat (j := 2) rfl, by decide, by decide⟩
      · exact ⟨2, atI_nat (j := 3) rfl, by decide, by decide⟩
      · exact ⟨3, atI_nat (j := 4) rfl, by decide, by decide⟩
    refine ⟨_, _, _, _, rfl, rfl, SqL.of hl, hat, ?_⟩
    have K1 : Kp p H H1 := (Same.kp (same_upd nl)).trans B1.kp
    -- [below] + ..
    refine ⟨_, rfl, Nat.le_of_lt (small1000 (show 1 ≤ 1000 by decide)), fun l2 nl2 => ?_⟩
    have s2 := same_upd (o := .lst [.int b]) nl2
    have P2 := P1.same s2
    have l2p : l2 ≠ p := by
      obtain ⟨q0, h0⟩ := P1.q
      exact (h0.ne_free nl2).1.symm
    have hl2 : (upd H1 l2 (.lst [.int b])) l2 = some (.lst [.int b]) := upd_same
    generalize upd H1 l2 (.lst [.int b]) = H2 at *
    refine ⟨_, rfl, _, rfl, by omega, by omega, fun D nD => ?_⟩
    refine lc_range (lo := 0) (n := d) (Dr p H2 D 2) (dr0 P2 nD) (fun i H3 hi hW => ?_) (fun H3 hW => ?_)
    · refine ⟨rfl, ?_⟩
      unfold tYes
      refine iteT ?_
      obtain ⟨q0, _, hq0, _⟩ := hW.1
      refine ⟨_, rfl, p, _, rfl, by decide, by decide, hq0.pl, fun n H4 l4 u4 P4 B4 => ⟨_, _, rfl, rfl, ?_⟩⟩
      obtain ⟨acc, h1, h2, h3⟩ := dr_step (n := n - 3) nD P2 hW B4 P4 (by omega)
      exact ⟨acc, h1, small1000 (by omega), h3⟩
    have K3 := hW.kp
    obtain ⟨⟨q3, _, hq3, _⟩, _, xs, eD, hlen, hB⟩ := hW
    have hl3 := K3.k _ _ l2p hl2
    refine ⟨l2, D, _, _, rfl, rfl, hl3, eD, ?_, fun c nc => ?_⟩
    · rw [List.length_map]
      exact Nat.le_of_lt (small1000 (by show 1 + xs.length ≤ 1000; omega))
    have s4 := same_upd (o := .lst ([.int b] ++ xs.map V.int)) nc
    have hb2 : ∀ n ∈ b :: xs, n.natAbs ≤ 3 := fun n hn => by
      rcases List.mem_cons.mp hn with rfl | hn
      · omega
      · have := hB n hn
        omega
    refine ⟨false, c, b :: xs, rfl, upd_same, by rw [List.length_cons]; omega, fun n hn => Nat.lt_of_le_of_lt (hb2 n hn) (by decide), fun H5 r s5 R5 => ?_⟩
    have g := gl_pos (ns := b :: xs) List.mem_cons_self (show b ≠ 0 by omega)
    exact q H5 r _ ((hq3.pl.same s4).same s5) (((K1.trans (Same.kp s2)).trans K3).trans ((Same.kp s4).trans (Same.kp s5))) R5 (by rw [prim_len, List.length_cons, hlen]) (prim_small hb2)
      ⟨_, prim_get (i := 0) rfl g, Int.ediv_pos_of_pos_of_dvd hb1 (Int.le_of_lt g) (gl_dvd List.mem_cons_self)⟩

/-! ### the mathematics of points -/
theorem gl_cons (x : Int) (ns : List Int) : gl (x :: ns) = ((Nat.gcd x.natAbs (gl ns).natAbs : Nat) : Int) := by
  have key : ∀ (l : List Int) (c : Int), 0 ≤ c → l.foldl g2 c = ((Nat.gcd c.natAbs (l.foldl g2 0).natAbs : Nat) : Int) := by
    intro l
    induction l with
    | nil =>
      intro c hc
      show c = ((Nat.gcd c.natAbs 0 : Nat) : Int)
      rw [Nat.gcd_zero_right]
      omega
    | cons y r ih =>
      intro c hc
      show r.foldl g2 (g2 c y) = ((Nat.gcd c.natAbs (r.foldl g2 (g2 0 y)).natAbs : Nat) : Int)
      rw [ih _ (g2_nn c y), ih _ (g2_nn 0 y)]
      congr 1
      unfold g2
      simp only [Int.natAbs_natCast, Int.natAbs_zero, Nat.gcd_zero_left, Nat.gcd_assoc]
  unfold gl
  show ns.foldl g2 (g2 0 x) = _
  rw [key _ _ (g2_nn 0 x)]
  congr 1
  unfold g2
  simp only [Int.natAbs_natCast, Int.natAbs_zero, Nat.gcd_zero_left]
theorem gl_scale (a : Int) (ha : 0 ≤ a) : ∀ ns : List Int, gl (ns.map (a * ·)) = a * gl ns
  | [] => by
    show (0 : Int) = a * 0
    rw [Int.mul_zero]
  | n :: ns => by
    rw [List.map_cons, gl_cons, gl_cons, gl_scale a ha ns]
    have h := gl_nn ns
    rw [Int.natAbs_mul, Int.natAbs_mul, Nat.gcd_mul_left, Int.natCast_mul]
    rw [show ((a.natAbs : Nat) : Int) = a by omega]
theorem prim_zero {ns : List Int} (h : gl ns = 0) : ∀ n ∈ ns, n = 0 := fun n hn => by
  have := gl_dvd hn
  rw [h] at this
  exact Int.zero_dvd.mp this
/-- vectors in proportion have the same primitive one -/
theorem prim_prop {u v : List Int} {a b : Int} (ha : 0 < a) (hb : 0 < b) (h : u.map (a * ·) = v.map (b * ·)) : prim u = prim v := by
  have hg : a * gl u = b * gl v := by rw [← gl_scale a (by omega), ← gl_scale b (by omega), h]
  have hl : u.length = v.length := by
    have := congrArg List.length h
    rwa [List.length_map, List.length_map] at this
  have gu := gl_nn u
  have gv := gl_nn v
  apply List.ext_getElem?
  intro i
  by_cases hi : i < u.length
  · have e1 : u[i]? = some u[i] := List.getElem?_eq_getElem hi
    have e2 : v[i]? = some (v[i]'(by omega)) := List.getElem?_eq_getElem (by omega)
    have e3 : a * u[i] = b * v[i]'(by omega) := by
      have := congrArg (fun l => l[i]?) h
      simp only [List.getElem?_map, e1, e2, Option.map_some] at this
      exact Option.some.inj this
    by_cases h0 : gl u = 0
    · have h1 : gl v = 0 := by
        rw [h0, Int.mul_zero] at hg
        rcases Int.mul_eq_zero.mp hg.symm with z | z
        · omega
        · exact z
      rw [show prim u = u from if_pos h0, show prim v = v from if_pos h1, e1, e2, prim_zero h0 _ (List.mem_of_getElem? e1), prim_zero h1 _ (List.mem_of_getElem? e2)]
    · have h1 : gl v ≠ 0 := fun z => by
        rw [z, Int.mul_zero] at hg
        rcases Int.mul_eq_zero.mp hg with z | z
        · omega
        · exact h0 z
      rw [prim_get e1 (by omega), prim_get e2 (by omega)]
      congr 1
      have p1 : u[i] / gl u = (a * u[i]) / (a * gl u) := (Int.mul_ediv_mul_of_pos _ _ ha).symm
      have p2 : (v[i]'(by omega)) / gl v = (b * v[i]'(by omega)) / (b * gl v) := (Int.mul_ediv_mul_of_pos _ _ hb).symm
      rw [p1, p2, e3, hg]
  · rw [List.getElem?_eq_none (by rw [prim_len]; omega), List.getElem?_eq_none (by rw [prim_len]; omega)]
/-- lowest terms, a positive divisor -/
def Low (f : Int × Int) : Prop := 0 < f.2 ∧ Nat.gcd f.1.natAbs f.2.natAbs = 1
theorem low_fr {a b : Int} (hb : 0 < b) : Low (frN a b, frD a b) := by
  refine ⟨frD_pos hb, ?_⟩
  have g := g2_pos (a := a) (b := b) (by omega)
  have e : (g2 a b).natAbs = Nat.gcd a.natAbs b.natAbs := by
    unfold g2
    exact Int.natAbs_natCast _
  show Nat.gcd (a / g2 a b).natAbs (b / g2 a b).natAbs = 1
  rw [Int.natAbs_ediv_of_dvd (g2_dvd_l a b), Int.natAbs_ediv_of_dvd (g2_dvd_r a b), e]
  rw [Nat.gcd_div (Nat.gcd_dvd_left _ _) (Nat.gcd_dvd_right _ _)]
  exact Nat.div_self (Nat.gcd_pos_of_pos_right _ (by omega))
/-- the cross product of a fraction and what it comes from -/
theorem fr_cross {a b : Int} (hb : 0 < b) : frN a b * b = frD a b * a := by
  have g := g2_pos (a := a) (b := b) (by omega)
  obtain ⟨x, hx⟩ := g2_dvd_l a b
  obtain ⟨y, hy⟩ := g2_dvd_r a b
  unfold frN frD
  generalize hg : g2 a b = k at *
  have h1 : a / k = x := by rw [hx, Int.mul_ediv_cancel_left _ (by omega)]
  have h2 : b / k = y := by rw [hy, Int.mul_ediv_cancel_left _ (by omega)]
  rw [h1, h2, hx, hy]
  simp only [Int.mul_assoc, Int.mul_left_comm, Int.mul_comm]
/-- equal fractions in lowest terms -/
theorem low_eq {f g : Int × Int} (hf : Low f) (hg : Low g) (h : f.1 * g.2 = f.2 * g.1) : f = g := by
  obtain ⟨a, b⟩ := f
  obtain ⟨c, d⟩ := g
  obtain ⟨b0, h1⟩ := hf
  obtain ⟨d0, h2⟩ := hg
  simp only at *
  have hN : a.natAbs * d.natAbs = b.natAbs * c.natAbs := by rw [← Int.natAbs_mul, ← Int.natAbs_mul, h]
  have k1 : b.natAbs ∣ d.natAbs := by
    have : b.natAbs ∣ a.natAbs * d.natAbs := ⟨c.natAbs, hN⟩
    exact Nat.Coprime.dvd_of_dvd_mul_left (by rw [Nat.Coprime, Nat.gcd_comm]; exact h1) this
  have k2 : d.natAbs ∣ b.natAbs := by
    have : d.natAbs ∣ c.natAbs * b.natAbs := ⟨a.natAbs, by rw [Nat.mul_comm c.natAbs, ← hN, Nat.mul_comm]⟩
    exact Nat.Coprime.dvd_of_dvd_mul_left (by rw [Nat.Coprime, Nat.gcd_comm]; exact h2) this
  have e : b = d := by
    have := Nat.dvd_antisymm k1 k2
    omega
  subst e
  have : a * b = c * b := by rw [h, Int.mul_comm]
  rw [Int.eq_of_mul_eq_mul_right (by omega) this]
/-- the least common multiple of divisors, their product -/
def lcmD (fs : List (Int × Int)) : Int := fs.foldl (fun c f => ((Nat.lcm c.natAbs f.2.natAbs : Nat) : Int)) 1
def prodD (fs : List (Int × Int)) : Int := fs.foldl (fun c f => c * f.2) 1
/-- the coordinates over one divisor -/
def over1 (L : Int) (fs : List (Int × Int)) : List Int := L :: fs.map fun f => f.1 * (L / f.2)
theorem lcmD_facts : ∀ (fs : List (Int × Int)) (c : Int), 0 < c → (∀ f ∈ fs, 0 < f.2) →
    0 < fs.foldl (fun c f => ((Nat.lcm c.natAbs f.2.natAbs : Nat) : Int)) c ∧ c ∣ fs.foldl (fun c f => ((Nat.lcm c.natAbs f.2.natAbs : Nat) : Int)) c ∧ (∀ f ∈ fs, f.2 ∣ fs.foldl (fun c f => ((Nat.lcm c.natAbs f.2.natAbs : Nat) : Int)) c) ∧
    ∀ m : Int, c ∣ m → (∀ f ∈ fs, f.2 ∣ m) → fs.foldl (fun c f => ((Nat.lcm c.natAbs f.2.natAbs : Nat) : Int)) c ∣ m
  | [], c, hc, _ => ⟨hc, Int.dvd_refl _, fun f h => (nomatch h), fun m h _ => h⟩
  | f :: fs, c, hc, hf => by
    have f0 := hf f List.mem_cons_self
    have l0 : 0 < ((Nat.lcm c.natAbs f.2.natAbs : Nat) : Int) := by
      have : 0 < Nat.lcm c.natAbs f.2.natAbs := Nat.lcm_pos (by omega) (by omega)
      omega
    obtain ⟨h1, h2, h3, h4⟩ := lcmD_facts fs ((Nat.lcm c.natAbs f.2.natAbs : Nat) : Int) l0 fun g hg => hf g (List.mem_cons_of_mem _ hg)
    have d1 : c ∣ ((Nat.lcm c.natAbs f.2.natAbs : Nat) : Int) := Int.natAbs_dvd_natAbs.mp (by rw [Int.natAbs_natCast]; exact Nat.dvd_lcm_left _ _)
    have d2 : f.2 ∣ ((Nat.lcm c.natAbs f.2.natAbs : Nat) : Int) := Int.natAbs_dvd_natAbs.mp (by rw [Int.natAbs_natCast]; exact Nat.dvd_lcm_right _ _)
    refine ⟨h1, Int.dvd_trans d1 h2, fun g hg => ?_, fun m hm hg => h4 m ?_ fun g h => hg g (List.mem_cons_of_mem _ h)⟩
    · rcases List.mem_cons.mp hg with rfl | hg
      · exact Int.dvd_trans d2 h2
      · exact h3 g hg
    · exact Int.natAbs_dvd_natAbs.mp (by rw [Int.natAbs_natCast]; exact Nat.lcm_dvd (Int.natAbs_dvd_natAbs.mpr hm) (Int.natAbs_dvd_natAbs.mpr (hg f List.mem_cons_self)))
theorem prodD_facts : ∀ (fs : List (Int × Int)) (c : Int), 0 < c → (∀ f ∈ fs, 0 < f.2) → 0 < fs.foldl (fun c f => c * f.2) c ∧ c ∣ fs.foldl (fun c f => c * f.2) c ∧ ∀ f ∈ fs, f.2 ∣ fs.foldl (fun c f => c * f.2) c
  | [], c, hc, _ => ⟨hc, Int.dvd_refl _, fun f h => nomatch h⟩
  | f :: fs, c, hc, hf => by
    obtain ⟨h1, h2, h3⟩ := prodD_facts fs (c * f.2) (Int.mul_pos hc (hf f List.mem_cons_self)) fun g hg => hf g (List.mem_cons_of_mem _ hg)
    refine ⟨h1, Int.dvd_trans ⟨f.2, rfl⟩ h2, fun g hg => ?_⟩
    rcases List.mem_cons.mp hg with rfl | hg
    · exact Int.dvd_trans ⟨c, Int.mul_comm _ _⟩ h2
    · exact h3 g hg
theorem div_mul {L d : Int} (h : d ∣ L) : d * (L / d) = L := Int.mul_ediv_cancel' h
/-- two common divisors give vectors in proportion -/
theorem over1_prop {L M : Int} {fs : List (Int × Int)} (h0 : ∀ f ∈ fs, 0 < f.2) (hL : ∀ f ∈ fs, f.2 ∣ L) (hM : ∀ f ∈ fs, f.2 ∣ M) : (over1 L fs).map (M * ·) = (over1 M fs).map (L * ·) := by
  unfold over1
  rw [List.map_cons, List.map_cons, List.map_map, List.map_map]
  congr 1
  · exact Int.mul_comm _ _
  · apply List.map_congr_left
    intro f hf
    show M * (f.1 * (L / f.2)) = L * (f.1 * (M / f.2))
    have e1 := div_mul (hL f hf)
    have e2 := div_mul (hM f hf)
    have f0 := h0 f hf
    generalize L / f.2 = x at *
    generalize M / f.2 = y at *
    rw [← e1, ← e2]
    simp only [Int.mul_assoc, Int.mul_left_comm, Int.mul_comm]
/-- over the least common multiple the vector is primitive -/
theorem over1_prim {fs : List (Int × Int)} (h : ∀ f ∈ fs, Low f) : prim (over1 (lcmD fs) fs) = over1 (lcmD fs) fs := by
  obtain ⟨L0, _, hd, hm⟩ := lcmD_facts fs 1 (by decide) fun f hf => (h f hf).1
  have hg : gl (over1 (lcmD fs) fs) = 1 := by
    have gp := gl_pos (ns := over1 (lcmD fs) fs) (n := lcmD fs) List.mem_cons_self (by unfold lcmD; omega)
    have g1 : gl (over1 (lcmD fs) fs) ∣ lcmD fs := gl_dvd List.mem_cons_self
    have g2' : ∀ f ∈ fs, gl (over1 (lcmD fs) fs) ∣ f.1 * (lcmD fs / f.2) := fun f hf => gl_dvd (List.mem_cons_of_mem _ (List.mem_map.mpr ⟨f, hf, rfl⟩))
    generalize gl (over1 (lcmD fs) fs) = g at *
    have hL : lcmD fs = fs.foldl (fun c f => ((Nat.lcm c.natAbs f.2.natAbs : Nat) : Int)) 1 := rfl
    rw [← hL] at L0 hd hm
    generalize lcmD fs = L at *
    obtain ⟨t, ht⟩ := g1
    have t0 : 0 < t := by
      by_cases q : 0 < t
      · exact q
      · have : g * t ≤ 0 := Int.mul_nonpos_of_nonneg_of_nonpos (by omega) (by omega)
        omega
    have each : ∀ f ∈ fs, f.2 ∣ t := fun f hf => by
      obtain ⟨d0, cop⟩ := h f hf
      have e1 := div_mul (hd f hf)
      have k1 := g2' f hf
      generalize L / f.2 = q at *
      -- g divides d q and n q, so q
      have kq : g ∣ q := by
        have a1 : g.natAbs ∣ f.1.natAbs * q.natAbs := by rw [← Int.natAbs_mul]; exact Int.natAbs_dvd_natAbs.mpr k1
        have a2 : g.natAbs ∣ f.2.natAbs * q.natAbs := by rw [← Int.natAbs_mul, e1]; exact Int.natAbs_dvd_natAbs.mpr ⟨t, ht⟩
        have a3 := Nat.dvd_gcd a1 a2
        rw [Nat.gcd_mul_right, cop, Nat.one_mul] at a3
        exact Int.natAbs_dvd_natAbs.mp a3
      obtain ⟨s, rfl⟩ := kq
      refine ⟨s, ?_⟩
      have : g * t = g * (f.2 * s) := by
        rw [← ht, ← e1]
        simp only [Int.mul_assoc, Int.mul_left_comm, Int.mul_comm]
      exact Int.eq_of_mul_eq_mul_left (by omega) this
    obtain ⟨r, hr⟩ := hm t (Int.one_dvd t) each
    have : 1 * t = (g * r) * t := by
      rw [Int.one_mul]
      conv => lhs; rw [hr, ht]
      simp only [Int.mul_assoc, Int.mul_left_comm, Int.mul_comm]
    have e1 := Int.eq_of_mul_eq_mul_right (by omega) this
    have r0 : 0 < r := by
      by_cases q : 0 < r
      · exact q
      · have : g * r ≤ 0 := Int.mul_nonpos_of_nonneg_of_nonpos (by omega) (by omega)
        omega
    have : g * 1 ≤ g * r := Int.mul_le_mul_of_nonneg_left (by omega) (by omega)
    omega
  unfold prim
  rw [hg, if_neg (by decide)]
  have : (fun n : Int => n / 1) = id := by funext n; exact Int.ediv_one n
  rw [this, List.map_id]
/-- what the law makes of coordinates is what the program makes -/
theorem made_same {fs : List (Int × Int)} (h : ∀ f ∈ fs, Low f) : prim (over1 (prodD fs) fs) = over1 (lcmD fs) fs := by
  obtain ⟨L0, _, hd, _⟩ := lcmD_facts fs 1 (by decide) fun f hf => (h f hf).1
  obtain ⟨M0, _, hd2⟩ := prodD_facts fs 1 (by decide) fun f hf => (h f hf).1
  rw [← over1_prim h]
  exact prim_prop L0 M0 (over1_prop (fun f hf => (h f hf).1) hd2 hd)

theorem Fr.keep {H H' : Hp} {r p : Addr} {n d : Int} {B : Nat} (h : Fr H r n d B) (hp : Pl H p) (s : Keep p H H') : Fr H' r n d B := ⟨s _ _ (hp.ne h.1) h.1, h.2⟩
abbrev s__law_some_frac : Stmt := topS 34
theorem sc__law_some_frac : FnScope ["pool", "way", "a", "b"] ["pool"] (defScope s__law_some_frac) := ⟨rfl, rfl, rfl, by decide +kernel, rfl, by decide +kernel, by decide +kernel⟩
def spSome : Sp := fun vs H Q _ => ∃ p : Addr, vs = [.ref p] ∧ Pl H p ∧ ∀ (r : Addr) (H' : Hp) (n d : Int), Pl H' p → Kp p H H' → Fr H' r n d 100 → n.natAbs < 2 ^ 85 → d.natAbs < 2 ^ 45 → Low (n, d) → Q (.ref r) H'
theorem lt_pow {v m : Int} {B : Nat} (h0 : 0 ≤ v) (h : v < m) (hm : m.natAbs ≤ 2 ^ B) : v.natAbs < 2 ^ B := by omega
theorem ok_some {f : Addr} {fd : FuncData} {k : Nat} (F : Fun K "_law_some_frac" "_law_some_frac" s__law_some_frac f fd) (Z : Glb mg)
    (C_law_draw : Call P w K mg base k "_law_draw" ["pool", "many"] spDraw)
    (C_law_frac : Call P w K mg base k "_law_frac" ["a", "b"] spFr) : FnOk P w K mg base CX0 (k + 1) f fd ["pool"] spSome := by
  refine F.ok sc__law_some_frac (fun vs H Q E h => ?_) (fun cdv A outer s H vs Q E hr h => ?_)
  · obtain ⟨p, rfl, _⟩ := h
    rfl
  · obtain ⟨p, rfl, hP, q⟩ := h
    refine ⟨_, (pss_cons (ps_set (i := 1) sc__law_some_frac.nd rfl (.inl rfl) (pe_call C_law_draw.G hr (by rfl) C_law_draw.m C_law_draw.kp C_law_draw.b .nil pass0 (pa_cons (pv 0) (pa_cons pe_int pa_nil))))
      (pss_cons (ps_set (i := 2) sc__law_some_frac.nd rfl (.inl rfl) (pe_op op_sub (pe_call C_law_draw.G hr (by rfl) C_law_draw.m C_law_draw.kp C_law_draw.b .nil pass0 (pa_cons (pv 0) (pa_cons pe_int pa_nil))) pe_int))
      (pss_cons (ps_set (i := 3) sc__law_some_frac.nd rfl (.inl rfl) (pe_op op_add pe_int (pe_call C_law_draw.G hr (by rfl) C_law_draw.m C_law_draw.kp C_law_draw.b .nil pass0 (pa_cons (pv 0) (pa_cons pe_int pa_nil)))))
      (pss_cut (ps_if (pt_cmpR op_eq (pv 1) pe_int (nomark _)) (pss_cons (ps_set (i := 2) sc__law_some_frac.nd rfl (.inl rfl) (pe_op op_mulW (pe_op op_sub (pe_call C_law_draw.G hr (by rfl) C_law_draw.m C_law_draw.kp C_law_draw.b .nil pass0 (pa_cons (pv 0) (pa_cons (pe_op op_pow pe_int pe_int) pa_nil))) (pe_op op_mul pe_int (pe_op op_pow pe_int pe_int))) (pe_op op_add pe_int (pe_call C_law_draw.G hr (by rfl) C_law_draw.m C_law_draw.kp C_law_draw.b .nil pass0 (pa_cons (pv 0) (pa_cons (pe_op op_pow pe_int pe_int) pa_nil))))))
      (pss_one (ps_set (i := 3) sc__law_some_frac.nd rfl (.inl rfl) (pe_op op_add pe_int (pe_call C_law_draw.G hr (by rfl) C_law_draw.m C_law_draw.kp C_law_draw.b .nil pass0 (pa_cons (pv 0) (pa_cons (pe_op op_pow pe_int pe_int) pa_nil))))))) pss_nil)
      (pss_one (ps_ret (pe_call C_law_frac.G hr (by rfl) C_law_frac.m C_law_frac.kp C_law_frac.b .nil pass0 (pa_cons (pv 2) (pa_cons (pv 3) pa_nil))))))))), ?_⟩
    refine ⟨_, rfl, _, _, rfl, by decide, by decide, hP, fun v1 H1 l1 u1 P1 B1 => ?_⟩
    refine ⟨_, rfl, _, _, rfl, by decide, by decide, P1, fun v2 H2 l2 u2 P2 B2 => ⟨_, _, rfl, rfl, ?_⟩⟩
    refine ⟨_, rfl, _, _, rfl, by decide, by decide, P2, fun v3 H3 l3 u3 P3 B3 => ⟨_, _, rfl, rfl, ?_⟩⟩
    refine ⟨fun σ H' => ∃ w n d : Int, σ = [some (.ref p), some (.int w), some (.int n), some (.int d)] ∧ 0 < d ∧ n.natAbs < 2 ^ 85 ∧ d.natAbs < 2 ^ 45 ∧ Pl H' p ∧ But p H H', ?_, ?_⟩
    · refine ⟨_, rfl, rfl, _, rfl, ite2 (fun e => ?_) (fun e => ?_)⟩
      · refine ⟨_, rfl, _, _, rfl, rfl, ⟨by decide, by decide, by decide⟩, _, _, rfl, by decide, by decide, P3, fun v4 H4 l4 u4 P4 B4 => ?_⟩
        refine ⟨_, _, rfl, rfl, ⟨by decide, by decide, by decide⟩, _, _, rfl, rfl, .inl ⟨by decide, by decide⟩, _, _, rfl, rfl, ?_⟩
        refine ⟨_, rfl, _, _, rfl, rfl, ⟨by decide, by decide, by decide⟩, _, _, rfl, by decide, by decide, P4, fun v5 H5 l5 u5 P5 B5 => ⟨_, _, rfl, rfl, _, _, rfl, rfl, ?_⟩⟩
        have m1 : (v4 - 5 * (10 : Int) ^ (14 : Int).toNat).natAbs < 2 ^ 50 := by
          have : v4 < 1000000000000000 := u4
          have e : (5 * (10 : Int) ^ (14 : Int).toNat) = 500000000000000 := by decide
          rw [e]
          omega
        have m2 : (1 + v5).natAbs < 2 ^ 31 := by
          have : v5 < 1000000000 := u5
          omega
        refine ⟨cmul m1 m2, ?_⟩
        refine ⟨_, rfl, _, _, rfl, rfl, ⟨by decide, by decide, by decide⟩, _, _, rfl, by decide, by decide, P5, fun v6 H6 l6 u6 P6 B6 => ⟨_, _, rfl, rfl, ?_⟩⟩
        have u6' : v6 < 1000000000000 := u6
        exact ⟨_, _, 1 + v6, rfl, by omega, up_pow (mul_pow m1 m2) (by decide), by omega, P6, ((((B1.trans B2).trans B3).trans B4).trans B5).trans B6⟩
      · exact ⟨v1, v2 - 20, 1 + v3, rfl, by omega, by omega, by omega, P3, (B1.trans B2).trans B3⟩
    · intro σ H1' hW
      obtain ⟨w1, n, d, rfl, d0, hn, hd, P4, B4⟩ := hW
      refine ⟨_, rfl, _, rfl, n, d, rfl, d0, up_pow hn (by decide), up_pow hd (by decide), fun r nr => ?_⟩
      exact q r _ _ _ (P4.same (same_upd nr)) (B4.kp.trans (Same.kp (same_upd nr))) (Fr.mk d0 (up_pow hn (by decide)) (up_pow hd (by decide))) (Nat.lt_of_le_of_lt (frN_abs (by omega)) hn) (Nat.lt_of_le_of_lt (frD_abs (by omega)) hd) (low_fr d0)

abbrev s_common_divisor : Stmt := topS 9
theorem sc_common_divisor : FnScope ["v", "common", "entry"] ["v"] (defScope s_common_divisor) := ⟨rfl, rfl, rfl, by decide +kernel, rfl, by decide +kernel, by decide +kernel⟩
def spCd : Sp := fun vs H Q _ => ∃ (a : Addr) (ns : List Int), vs = [.ref a] ∧ Vc H a ns ∧ Q (.int (gl ns)) H
theorem ok_cd {f : Addr} {fd : FuncData} {k : Nat} (F : Fun K "common_divisor" "common_divisor" s_common_divisor f fd) (Z : Glb mg) : FnOk P w K mg base CX0 (k + 1) f fd ["v"] spCd := by
  refine F.ok sc_common_divisor (fun vs H Q E h => ?_) (fun cdv A outer s H vs Q E hr h => ?_)
  · obtain ⟨a, ns, rfl, _⟩ := h
    rfl
  · obtain ⟨a, ns, rfl, hv, q⟩ := h
    refine ⟨_, (pss_cons (ps_set (i := 1) sc_common_divisor.nd rfl (.inl rfl) pe_int)
      (pss_cons (ps_for PassesOwn.never rfl (pi_tup (pv 0)) (pg_name (i := 2) sc_common_divisor.nd rfl (.inl rfl)) (pss_one (ps_set (i := 1) sc_common_divisor.nd rfl (.inl rfl) (pe_callBfun cr_gcd (by rfl) Z.m_gcd (pa_cons (pv 1) (pa_cons (pv 2) pa_nil))))))
      (pss_one (ps_ret (pv 1))))), ?_⟩
    refine ⟨_, rfl, a, rfl, ⟨_, SqT.of hv⟩, ?_⟩
    refine for_tup (xs := ns.map V.int) (fun i σ H' => H' = H ∧ ∃ y2 : Option V, σ = [some (.ref a), some (.int (gl (ns.take i))), y2]) ⟨rfl, _, rfl⟩ (fun i σ H' _ hP => by obtain ⟨rfl, _⟩ := hP; exact SqT.of hv) (fun i x σ H' hx hP => ?_) (fun σ H' hP => ?_)
    · obtain ⟨rfl, y2, rfl⟩ := hP
      obtain ⟨n, hn, rfl⟩ := map_get hx
      refine ⟨_, rfl, _, rfl, _, _, rfl, rfl, some (.int n), ?_⟩
      rw [gl_step hn]
      rfl
    · obtain ⟨rfl, y2, rfl⟩ := hP
      rw [List.length_map, List.take_length]
      exact ⟨_, rfl, q⟩

def spPrim : Sp := fun vs H Q _ => ∃ (a : Addr) (ns : List Int), vs = [.ref a] ∧ Vc H a ns ∧ ns.length ≤ 1000 ∧ (∀ n ∈ ns, n.natAbs < 2 ^ 299) ∧ ∀ (H' : Hp) (r : Addr), Same H H' → Vc H' r (prim ns) → Q (.ref r) H'
abbrev s_primitive : Stmt := topS 10
theorem sc_primitive : FnScope ["v", "common", "entry"] ["v"] (defScope s_primitive) := ⟨rfl, rfl, rfl, by decide +kernel, rfl, by decide +kernel, by decide +kernel⟩
theorem ok_prim {f : Addr} {fd : FuncData} {k : Nat} (F : Fun K "primitive" "primitive" s_primitive f fd) (Z : Glb mg)
    (Ccommon_divisor : Call P w K mg base k "common_divisor" ["v"] spCd) : FnOk P w K mg base CX0 (k + 1) f fd ["v"] spPrim := by
  refine F.ok sc_primitive (fun vs H Q E h => ?_) (fun cdv A outer s H vs Q E hr h => ?_)
  · obtain ⟨a, ns, rfl, _⟩ := h
    rfl
  · obtain ⟨a, ns, rfl, hv, hl, hB, q⟩ := h
    refine ⟨_, (pss_cons (ps_set (i := 1) sc_primitive.nd rfl (.inr rfl) (pe_call Ccommon_divisor.G hr (by rfl) Ccommon_divisor.m Ccommon_divisor.kp Ccommon_divisor.b .nil pass0 (pa_cons (pv 0) pa_nil)))
      (pss_cons (ps_if (pt_cmpR op_eq (pv 1) pe_int (nomark _)) (pss_one (ps_ret (pe_callTy call_tupleT (by rfl) Z.m_tuple (by decide +kernel) (pa_cons (pv 0) pa_nil)))) pss_nil)
      (pss_one (ps_ret (pe_callTy call_tuple_of (by rfl) Z.m_tuple (by decide +kernel) (pa_cons (pe_lc (own := [("entry", 2)]) (g := gName 2) (tt := tYes) (by rfl) sc_primitive.nd (pi_tup (pv 0)) (blkOk_by (own := [("entry", 2)]) (N := ["v", "common", "entry"]) (sc := defScope s_primitive) (by first | decide +kernel | kernel_rfl)) (fun _ _ _ _ _ => (pg_name (i := 2) sc_primitive.nd rfl (.inl rfl))) (fun _ _ _ _ _ => pts_nil) (fun _ _ _ _ _ => (pe_op op_fdivW (pv 2) (pv 1)))) pa_nil)))))), ?_⟩
    refine ⟨_, rfl, a, ns, rfl, hv, ?_⟩
    refine ⟨_, rfl, rfl, _, rfl, ite2 (fun e => ?_) (fun e => ?_)⟩
    · have e0 : gl ns = 0 := V.int.inj (of_decide_eq_true e)
      refine ⟨_, rfl, a, _, rfl, SqT.of hv, ?_⟩
      refine q _ _ (Same.refl _) ?_
      rw [show prim ns = ns from if_pos e0]
      exact hv
    · have e0 : gl ns ≠ 0 := fun z => e (decide_eq_true (by rw [z]))
      have ep : prim ns = ns.map (· / gl ns) := if_neg e0
      have cd : ∀ x : Int, CDivW x (gl ns) := fun x => wide_div (by have := gl_nn ns; omega) (gl_lim (by decide) hB) (by decide) (by decide)
      refine ⟨_, rfl, a, rfl, ⟨_, SqT.of hv⟩, fun D nD => ?_⟩
      refine lc_tup (xs := ns.map V.int) (fun i H' => ∃ H0, Same H H0 ∧ H0 D = none ∧ H' = upd H0 D (.lst (((prim ns).take i).map V.int))) ⟨H, Same.refl _, nD, rfl⟩ (fun i H' _ hP => ?_) (fun i x H' hx hP => ?_) (fun H' hP => ?_)
      · obtain ⟨H0, s0, n0, rfl⟩ := hP
        exact SqT.of ((s0.trans (same_upd n0)) _ _ hv)
      · obtain ⟨H0, s0, n0, rfl⟩ := hP
        obtain ⟨n, hn, rfl⟩ := map_get hx
        refine ⟨rfl, ?_⟩
        unfold tYes
        refine iteT ?_
        refine ⟨_, rfl, _, rfl, _, _, rfl, rfl, cd n, _, upd_same, ?_, H0, s0, n0, ?_⟩
        · rw [List.length_map, List.length_take]
          exact Nat.lt_of_le_of_lt (Nat.min_le_right _ _) (small1000 (by rw [prim_len]; exact hl))
        · rw [upd_upd]
          have hg : (prim ns)[i]? = some (n / gl ns) := by
            rw [ep, List.getElem?_map, hn]
            rfl
          rw [take_get hg, List.map_append]
          rfl
      · obtain ⟨H0, s0, n0, rfl⟩ := hP
        rw [List.length_map, show ns.length = (prim ns).length from (prim_len ns).symm, List.take_length]
        refine ⟨D, _, rfl, .inl ⟨SqL.of upd_same, fun l nl => ?_⟩⟩
        exact q _ _ ((s0.trans (same_upd n0)).trans (same_upd nl)) upd_same

abbrev s_dot : Stmt := topS 8
theorem sc_dot : FnScope ["v", "w", "a", "b"] ["v", "w"] (defScope s_dot) := ⟨rfl, rfl, rfl, by decide +kernel, rfl, by decide +kernel, by decide +kernel⟩
def spDot : Sp := fun vs H Q _ => ∃ (a b : Addr) (ns ms : List Int), vs = [.ref a, .ref b] ∧ Vc H a ns ∧ Vc H b ms ∧ ns.length = ms.length ∧ ns.length ≤ 1000 ∧ (∀ n ∈ ns, n.natAbs < 2 ^ 299) ∧ (∀ n ∈ ms, n.natAbs < 2 ^ 299) ∧ ∀ H' : Hp, Same H H' → Q (.int (dotz ns ms).sum) H'
theorem ok_dot {f : Addr} {fd : FuncData} {k : Nat} (F : Fun K "dot" "dot" s_dot f fd) (Z : Glb mg) : FnOk P w K mg base CX0 (k + 1) f fd ["v", "w"] spDot := by
  refine F.ok sc_dot (fun vs H Q E h => ?_) (fun cdv A outer s H vs Q E hr h => ?_)
  · obtain ⟨a, b, ns, ms, rfl, _⟩ := h
    rfl
  · obtain ⟨a, b, ns, ms, rfl, ha, hb, hl, hm, B1, B2, q⟩ := h
    refine ⟨_, (pss_one (ps_ret (pe_callB (cr_sum rfl) (by rfl) Z.m_sum (by decide +kernel) (pa_cons (pe_lc (own := [("a", 2), ("b", 3)]) (g := gTup K 2 (gCons (gName 2) (gCons (gName 3) gNil))) (tt := tYes) (by rfl) sc_dot.nd (pi_zipA (by rfl) Z.m_zip (pa_cons (pv 0) (pa_cons (pv 1) pa_nil))) (blkOk_by (own := [("a", 2), ("b", 3)]) (N := ["v", "w", "a", "b"]) (sc := defScope s_dot) (by first | decide +kernel | kernel_rfl)) (fun _ _ _ _ _ => (pg_tup rfl (pgs_cons (pg_name (i := 2) sc_dot.nd rfl (.inl rfl)) (pgs_cons (pg_name (i := 3) sc_dot.nd rfl (.inl rfl)) pgs_nil)))) (fun _ _ _ _ _ => pts_nil) (fun _ _ _ _ _ => (pe_op op_mulW (pv 2) (pv 3)))) pa_nil)))), ?_⟩
    refine ⟨_, rfl, _, rfl, a, b, ns.map V.int, ms.map V.int, rfl, .inr ⟨SqT.of ha, SqT.of hb, fun D nD => ?_⟩⟩
    refine lc_it (walk_zipT (xs := ns.map V.int) (ys := ms.map V.int) (n := ns.length) (by rw [List.length_map]) (by rw [List.length_map]; exact hl.symm)) (fun i H' => ∃ H0, Same H H0 ∧ H0 D = none ∧ H' = upd H0 D (.lst (((dotz ns ms).take i).map V.int))) ⟨H, Same.refl _, nD, rfl⟩ (fun i H' _ hP => ?_) (fun i x H' H'' hi hP hY => ?_) (fun H' hP => ?_)
    · obtain ⟨H0, s0, n0, rfl⟩ := hP
      have s1 := s0.trans (same_upd (o := .lst (((dotz ns ms).take i).map V.int)) n0)
      exact ⟨SqT.of (s1 _ _ ha), SqT.of (s1 _ _ hb)⟩
    · obtain ⟨H0, s0, n0, rfl⟩ := hP
      obtain ⟨T, x1, y1, rfl, nT, rfl, hx, hy⟩ := hY
      obtain ⟨n, hn, rfl⟩ := map_get hx
      obtain ⟨m, hm', rfl⟩ := map_get hy
      refine ⟨T, [.int n, .int m], rfl, SqT.of upd_same, rfl, _, _, rfl, _, _, rfl, rfl, rfl, ?_⟩
      unfold tYes
      refine iteT ?_
      have hT : D ≠ T := ne_of_none upd_same nT
      have nT0 : H0 T = none := by rw [upd_ne hT.symm] at nT; exact nT
      refine ⟨_, rfl, _, rfl, _, _, rfl, rfl, cmul (B1 n (List.mem_of_getElem? hn)) (B2 m (List.mem_of_getElem? hm')), ((dotz ns ms).take i).map V.int, by rw [upd_ne hT]; exact upd_same, ?_, upd H0 T (.tup [.int n, .int m]), s0.trans (same_upd nT0), by rw [upd_ne hT]; exact n0, ?_⟩
      · rw [List.length_map, List.length_take]
        exact Nat.lt_of_le_of_lt (Nat.min_le_right _ _) (small1000 (by rw [dotz_len hl]; exact hm))
      · rw [take_get (dotz_get hn hm'), List.map_append]
        funext x
        unfold upd
        by_cases h1 : x = D
        · subst h1
          rw [if_pos rfl, if_pos rfl]
          rfl
        · rw [if_neg h1, if_neg h1]
          by_cases h2 : x = T
          · simp [h2, hT.symm]
          · simp [h1, h2]
    · obtain ⟨H0, s0, n0, rfl⟩ := hP
      rw [show ns.length = (dotz ns ms).length from (dotz_len hl).symm, List.take_length]
      refine ⟨D, _, rfl, SqL.of upd_same, ?_⟩
      exact q _ (s0.trans (same_upd n0))
abbrev s__law_dot : Stmt := topS 28
theorem sc__law_dot : FnScope ["v", "w", "k"] ["v", "w"] (defScope s__law_dot) := ⟨rfl, rfl, rfl, by decide +kernel, rfl, by decide +kernel, by decide +kernel⟩
theorem ok_ldot {f : Addr} {fd : FuncData} {k : Nat} (F : Fun K "_law_dot" "_law_dot" s__law_dot f fd) (Z : Glb mg) : FnOk P w K mg base CX0 (k + 1) f fd ["v", "w"] spDot := by
  refine F.ok sc__law_dot (fun vs H Q E h => ?_) (fun cdv A outer s H vs Q E hr h => ?_)
  · obtain ⟨a, b, ns, ms, rfl, _⟩ := h
    rfl
  · obtain ⟨a, b, ns, ms, rfl, ha, hb, hl, hm, B1, B2, q⟩ := h
    refine ⟨_, (pss_one (ps_ret (pe_callB (cr_sum rfl) (by rfl) Z.m_sum (by decide +kernel) (pa_cons (pe_lc (own := [("k", 2)]) (g := gName 2) (tt := tYes) (by rfl) sc__law_dot.nd (pi_range1 rfl Z.m_range (pa_cons (pe_callB call_len_seq (by rfl) Z.m_len PySem.boot_len (pa_cons (pv 0) pa_nil)) pa_nil)) (blkOk_by (own := [("k", 2)]) (N := ["v", "w", "k"]) (sc := defScope s__law_dot) (by first | decide +kernel | kernel_rfl)) (fun _ _ _ _ _ => (pg_name (i := 2) sc__law_dot.nd rfl (.inl rfl))) (fun _ _ _ _ _ => pts_nil) (fun _ _ _ _ _ => (pe_op op_mulW (pe_ix (r := rIxT K) ix_tup (pv 0) (pv 2) (fun _ _ => rfl)) (pe_ix (r := rIxT K) ix_tup (pv 1) (pv 2) (fun _ _ => rfl))))) pa_nil)))), ?_⟩
    refine ⟨_, rfl, a, ns.map V.int, rfl, .inr (SqT.of ha), ((ns.map V.int).length : Nat), rfl, by rw [List.length_map]; omega, by rw [List.length_map]; omega, fun D nD => ?_⟩
    refine lc_range (lo := 0) (n := (ns.map V.int).length) (fun i H' => ∃ H0, Same H H0 ∧ H0 D = none ∧ H' = upd H0 D (.lst (((dotz ns ms).take i).map V.int))) ⟨H, Same.refl _, nD, rfl⟩ (fun i H' hi hP => ?_) (fun H' hP => ?_)
    · obtain ⟨H0, s0, n0, rfl⟩ := hP
      have s1 := s0.trans (same_upd (o := .lst (((dotz ns ms).take i).map V.int)) n0)
      rw [List.length_map] at hi
      have hn : ns[i]? = some ns[i] := List.getElem?_eq_getElem hi
      have hm' : ms[i]? = some (ms[i]'(by omega)) := List.getElem?_eq_getElem (by omega)
      have e0 : (0 : Int) + (i : Int) = ((i : Nat) : Int) := Int.zero_add _
      rw [e0]
      refine ⟨rfl, ?_⟩
      unfold tYes
      refine iteT ?_
      refine ⟨_, rfl, _, rfl, _, _, _, _, rfl, rfl, SqT.of (s1 _ _ ha), atI_nat (get_map hn), _, rfl, _, rfl, _, _, _, _, rfl, rfl, SqT.of (s1 _ _ hb), atI_nat (get_map hm'), _, _, rfl, rfl, cmul (B1 _ (List.mem_of_getElem? hn)) (B2 _ (List.mem_of_getElem? hm')), ((dotz ns ms).take i).map V.int, upd_same, ?_, H0, s0, n0, ?_⟩
      · rw [List.length_map, List.length_take]
        exact Nat.lt_of_le_of_lt (Nat.min_le_right _ _) (small1000 (by rw [dotz_len hl]; exact hm))
      · rw [take_get (dotz_get hn hm'), List.map_append, upd_upd]
        rfl
    · obtain ⟨H0, s0, n0, rfl⟩ := hP
      rw [List.length_map, show ns.length = (dotz ns ms).length from (dotz_len hl).symm, List.take_length]
      refine ⟨D, _, rfl, SqL.of upd_same, ?_⟩
      exact q _ (s0.trans (same_upd n0))

theorem cat_h {H : Hp} {a b : Addr} {xs ys : List V} {Q : VK} (ha : H a = some (.tup xs)) (hb : H b = some (.tup ys)) (hz : xs.length + ys.length ≤ 1000) (q : ∀ (H' : Hp) (r : Addr), Same H H' → H' r = some (.tup (xs ++ ys)) → Q (.ref r) H') : rCatA K (.ref a) (.ref b) H Q :=
  ⟨a, b, xs, ys, rfl, rfl, SqT.of ha, SqT.of hb, Nat.le_of_lt (small1000 hz), fun e => q _ _ (Same.refl _) (by rw [e]; exact hb), fun _ e => q _ _ (Same.refl _) (by rw [e, List.append_nil]; exact ha), fun _ _ p np => q _ _ (same_upd np) upd_same⟩
theorem cut_whole {xs : List V} {lo hi : Option Int} (h : HT.sIx xs.length 0 lo = 0 ∧ HT.sIx xs.length xs.length hi = xs.length) : cutV xs lo hi = xs := by
  unfold cutV
  rw [h.1, h.2]
  exact List.take_length
theorem sl_h {H : Hp} {a : Addr} {xs : List V} {lo hi : Option Int} {Q : VK} (ha : H a = some (.tup xs)) (q : ∀ (H' : Hp) (r : Addr), Same H H' → H' r = some (.tup (cutV xs lo hi)) → Q (.ref r) H') : rSlA K (.ref a) lo hi H Q :=
  ⟨a, xs, rfl, SqT.of ha, fun e => q _ _ (Same.refl _) (by rw [cut_whole e]; exact ha), fun _ p np => q _ _ (same_upd np) upd_same⟩
theorem cut_mem {xs : List V} {lo hi : Option Int} {x : V} (h : x ∈ cutV xs lo hi) : x ∈ xs := List.mem_of_mem_drop (List.mem_of_mem_take h)
theorem cut_take (xs : List V) (j : Nat) : cutV xs none (some (j : Int)) = xs.take j := by
  unfold cutV
  rw [HT.sIx_none, HT.sIx_nat, List.drop_zero, Nat.sub_zero]
  by_cases h : j ≤ xs.length
  · rw [Nat.min_eq_left h]
  · rw [Nat.min_eq_right (by omega), List.take_length, List.take_of_length_le (by omega)]
theorem cut_drop (xs : List V) (j : Nat) : cutV xs (some (j : Int)) none = xs.drop j := by
  unfold cutV
  rw [HT.sIx_none, HT.sIx_nat]
  by_cases h : j ≤ xs.length
  · rw [Nat.min_eq_left h]
    exact List.take_of_length_le (by rw [List.length_drop]; exact Nat.le_refl _)
  · rw [Nat.min_eq_right (by omega), Nat.sub_self, List.take_zero, List.drop_eq_nil_of_le (by omega)]

/-- a call of a def that may raise -/
structure CallX (P : Program) (w : World) (K : PySem.W.Frag) (mg : Str → Option Value) (base : Heap) (k : Nat) (nm : Str) (ps : List Str) (sp : Sp) where
  g : Addr
  gd : FuncData
  G : FnOk P w K mg base (L2.CX P w) k g gd ps sp
  m : mg nm = some (.ref g)
  kp : PySem.W.keepIn K (.ref g) = true
  b : Binds K gd ps []

/-! ### lists of fractions, lists of vectors -/
/-- a list of tuples that are told by R -/
def RL (H : Hp) (a : Addr) (n : Nat) (R : Nat → Addr → Prop) : Prop := ∃ rs : List Addr, H a = some (.lst (rs.map V.ref)) ∧ rs.length = n ∧ ∀ i r, rs[i]? = some r → R i r
def FL (H : Hp) (a : Addr) (fs : List (Int × Int)) (B : Nat) : Prop := RL H a fs.length fun i r => ∃ f, fs[i]? = some f ∧ Fr H r f.1 f.2 B
def VL (H : Hp) (a : Addr) (vs : List (List Int)) : Prop := RL H a vs.length fun i r => ∃ v, vs[i]? = some v ∧ Vc H r v
theorem FL.same {H H' : Hp} {a : Addr} {fs : List (Int × Int)} {B : Nat} (h : FL H a fs B) (s : Same H H') : FL H' a fs B := by
  obtain ⟨rs, e, l, g⟩ := h
  exact ⟨rs, s _ _ e, l, fun i r hr => by obtain ⟨f, h1, h2⟩ := g i r hr; exact ⟨f, h1, h2.same s⟩⟩
theorem VL.same {H H' : Hp} {a : Addr} {vs : List (List Int)} (h : VL H a vs) (s : Same H H') : VL H' a vs := by
  obtain ⟨rs, e, l, g⟩ := h
  exact ⟨rs, s _ _ e, l, fun i r hr => by obtain ⟨f, h1, h2⟩ := g i r hr; exact ⟨f, h1, h2.same s⟩⟩
theorem FL.kp {H H' : Hp} {a p : Addr} {fs : List (Int × Int)} {B : Nat} (h : FL H a fs B) (hP : Pl H p) (ne : a ≠ p) (s : Keep p H H') : FL H' a fs B := by
  obtain ⟨rs, e, l, g⟩ := h
  exact ⟨rs, s _ _ ne e, l, fun i r hr => by obtain ⟨f, h1, h2⟩ := g i r hr; exact ⟨f, h1, s _ _ (hP.ne h2.1) h2.1, h2.2⟩⟩
theorem VL.kp {H H' : Hp} {a p : Addr} {vs : List (List Int)} (h : VL H a vs) (hP : Pl H p) (ne : a ≠ p) (s : Keep p H H') : VL H' a vs := by
  obtain ⟨rs, e, l, g⟩ := h
  exact ⟨rs, s _ _ ne e, l, fun i r hr => by obtain ⟨f, h1, h2⟩ := g i r hr; exact ⟨f, h1, h2.keep hP s⟩⟩
theorem ref_get {rs : List Addr} {i : Nat} {x : V} (h : (rs.map V.ref)[i]? = some x) : ∃ r, rs[i]? = some r ∧ x = .ref r := by
  rw [List.getElem?_map] at h
  cases e : rs[i]? with
  | none => rw [e] at h; cases h
  | some r => rw [e] at h; exact ⟨r, rfl, (Option.some.inj h).symm⟩
theorem get_ref {rs : List Addr} {i : Nat} {r : Addr} (h : rs[i]? = some r) : (rs.map V.ref)[i]? = some (.ref r) := by
  rw [List.getElem?_map, h]
  rfl
theorem RL.at {H : Hp} {a : Addr} {n i : Nat} {R : Nat → Addr → Prop} (h : RL H a n R) (hi : i < n) : ∃ (rs : List Addr) (r : Addr), H a = some (.lst (rs.map V.ref)) ∧ rs[i]? = some r ∧ R i r := by
  obtain ⟨rs, e, l, g⟩ := h
  have : rs[i]? = some (rs[i]'(by omega)) := List.getElem?_eq_getElem (by omega)
  exact ⟨rs, _, e, this, g _ _ this⟩
/-- lists of alike tuples are alike -/
theorem fl_alike {H : Hp} {a b : Addr} {fs : List (Int × Int)} {B C : Nat} (ha : FL H a fs B) (hb : FL H b fs C) (hl : fs.length ≤ 1000) : Alike H 2 (.ref a) (.ref b) := by
  obtain ⟨rs, e, l, g⟩ := ha
  obtain ⟨ts, e', l', g'⟩ := hb
  refine .lst e e' (by rw [List.length_map, List.length_map]; omega) (by rw [List.length_map]; omega) fun i x y h1 h2 => ?_
  obtain ⟨r, h3, rfl⟩ := ref_get h1
  obtain ⟨t, h4, rfl⟩ := ref_get h2
  obtain ⟨f, k1, k2⟩ := g i r h3
  obtain ⟨f', k3, k4⟩ := g' i t h4
  have := Option.some.inj (k1.symm.trans k3)
  subst this
  refine .tup k2.1 k4.1 rfl (by show 2 ≤ 1000000; decide) fun j u v h5 h6 => ?_
  have := Option.some.inj (h5.symm.trans h6)
  subst this
  match j with
  | 0 => cases h5; exact .int 0 _
  | 1 => cases h5; exact .int 0 _
  | j + 2 => cases h5
/-! ### made_point, coordinates .. -/
theorem lcm_take {fs : List (Int × Int)} {i : Nat} {f : Int × Int} (h : fs[i]? = some f) : lcmD (fs.take (i + 1)) = ((Nat.lcm (lcmD (fs.take i)).natAbs f.2.natAbs : Nat) : Int) := by
  unfold lcmD
  rw [take_get h, List.foldl_append]
  rfl
theorem lcm_lim2 {fs : List (Int × Int)} {B : Nat} (hB : ∀ f ∈ fs, f.2.natAbs < 2 ^ B) : ∀ i, (lcmD (fs.take i)).natAbs < 2 ^ (B * i + 1)
  | 0 => by
    show 1 < 2 ^ (B * 0 + 1)
    rw [Nat.mul_zero]
    decide
  | i + 1 => by
    have ih := lcm_lim2 hB i
    cases e : fs[i]? with
    | none =>
      have : fs.take (i + 1) = fs.take i := by
        have := List.getElem?_eq_none_iff.mp e
        rw [List.take_of_length_le (by omega), List.take_of_length_le this]
      rw [this]
      exact up_pow ih (by rw [Nat.mul_succ]; omega)
    | some f =>
      rw [lcm_take e, Int.natAbs_natCast]
      have h1 : Nat.lcm (lcmD (fs.take i)).natAbs f.2.natAbs ≤ (lcmD (fs.take i)).natAbs * f.2.natAbs := by
        unfold Nat.lcm
        exact Nat.div_le_self _ _
      have h2 := Nat.mul_lt_mul'' ih (hB f (List.mem_of_getElem? e))
      rw [← Nat.pow_add] at h2
      exact up_pow (Nat.lt_of_le_of_lt h1 h2) (by rw [Nat.mul_succ]; omega)
theorem lcm_lim3 {fs : List (Int × Int)} {B : Nat} (hB : ∀ f ∈ fs, f.2.natAbs < 2 ^ B) : (lcmD fs).natAbs < 2 ^ (B * fs.length + 1) := by
  have := lcm_lim2 hB fs.length
  rwa [List.take_length] at this
abbrev s_made_point : Stmt := topS 12
theorem sc_made_point : FnScope ["coordinates", "common", "_", "b", "a"] ["coordinates"] (defScope s_made_point) := ⟨rfl, rfl, rfl, by decide +kernel, rfl, by decide +kernel, by decide +kernel⟩
def spMadePt : Sp := fun vs H Q _ => ∃ (a : Addr) (fs : List (Int × Int)), vs = [.ref a] ∧ FL H a fs 300 ∧ (∀ f ∈ fs, Low f) ∧ (∀ f ∈ fs, f.2.natAbs < 2 ^ 300) ∧ (∀ f ∈ fs, f.1.natAbs < 2 ^ 300) ∧ 1 ≤ fs.length ∧ fs.length ≤ 10 ∧ ∀ (H' : Hp) (r : Addr), Same H H' → Vc H' r (over1 (lcmD fs) fs) → Q (.ref r) H'
theorem ok_madept {f : Addr} {fd : FuncData} {k : Nat} (F : Fun K "made_point" "made_point" s_made_point f fd) (Z : Glb mg) : FnOk P w K mg base CX0 (k + 1) f fd ["coordinates"] spMadePt := by
  refine F.ok sc_made_point (fun vs H Q E h => ?_) (fun cdv A outer s H vs Q E hr h => ?_)
  · obtain ⟨a, fs, rfl, _⟩ := h
    rfl
  · obtain ⟨a, fs, rfl, hF, hlow, hB, hA, l1, l10, q⟩ := h
    obtain ⟨rs, ea, el, eg⟩ := hF
    refine ⟨_, (pss_cons (ps_set (i := 1) sc_made_point.nd rfl (.inr rfl) pe_int)
      (pss_cons (ps_for PassesOwn.never rfl (pi_list (pv 0)) (pg_tup rfl (pgs_cons (pg_name (i := 2) sc_made_point.nd rfl (.inl rfl)) (pgs_cons (pg_name (i := 3) sc_made_point.nd rfl (.inl rfl)) pgs_nil))) (pss_one (ps_set (i := 1) sc_made_point.nd rfl (.inr rfl) (pe_callBfun cr_lcm (by rfl) Z.m_lcm (pa_cons (pv 1) (pa_cons (pv 3) pa_nil))))))
      (pss_one (ps_ret (pe_op (r := rCatA K) op_catA (pe_tup (pa_cons (pv 1) pa_nil)) (pe_callTy call_tuple_of (by rfl) Z.m_tuple (by decide +kernel) (pa_cons (pe_lc (own := [("a", 4), ("b", 3)]) (g := gTup K 2 (gCons (gName 4) (gCons (gName 3) gNil))) (tt := tYes) (by rfl) sc_made_point.nd (pi_list (pv 0)) (blkOk_by (own := [("a", 4), ("b", 3)]) (N := ["coordinates", "common", "_", "b", "a"]) (sc := defScope s_made_point) (by first | decide +kernel | kernel_rfl)) (fun _ _ _ _ _ => (pg_tup rfl (pgs_cons (pg_name (i := 4) sc_made_point.nd rfl (.inl rfl)) (pgs_cons (pg_name (i := 3) sc_made_point.nd rfl (.inl rfl)) pgs_nil)))) (fun _ _ _ _ _ => pts_nil) (fun _ _ _ _ _ => (pe_op op_mulW (pv 4) (pe_op op_fdivW (pv 1) (pv 3))))) pa_nil))))))), ?_⟩
    refine ⟨_, rfl, a, rfl, ⟨_, SqL.of ea⟩, ?_⟩
    refine for_list (xs := rs.map V.ref) (fun i σ H' => H = H' ∧ ∃ y2 y3 : Option V, σ = [some (.ref a), some (.int (lcmD (fs.take i))), y2, y3, none]) ⟨rfl, _, _, rfl⟩ (fun i σ H' _ hP => by obtain ⟨rfl, _⟩ := hP; exact SqL.of ea) (fun i x σ H' hx hP => ?_) (fun σ H' hP => ?_)
    · obtain ⟨rfl, y2, y3, rfl⟩ := hP
      obtain ⟨r, hr, rfl⟩ := ref_get hx
      obtain ⟨f, hf, ff⟩ := eg i r hr
      have lim := lcm_lim2 hB i
      have hi : i < 10 := by
        have := lt_of_get hf
        omega
      refine ⟨r, [.int f.1, .int f.2], rfl, SqT.of ff.1, rfl, _, _, rfl, _, _, rfl, rfl, ?_⟩
      refine ⟨_, rfl, _, rfl, _, _, rfl, up_pow lim (by omega), up_pow ff.2.2.2 (by decide), rfl, some (.int f.1), some (.int f.2), ?_⟩
      rw [lcm_take hf]
      rfl
    · obtain ⟨rfl, y2, y3, rfl⟩ := hP
      rw [List.length_map, el, List.take_length]
      have lim := lcm_lim3 hB
      have lim2 : (lcmD fs).natAbs < 2 ^ 4000 := up_pow lim (by omega)
      refine ⟨_, rfl, Nat.le_of_lt (small1000 (show 1 ≤ 1000 by decide)), fun c nc => ?_⟩
      have s1 := same_upd (o := .tup [.int (lcmD fs)]) nc
      have hc : (upd H c (.tup [.int (lcmD fs)])) c = some (.tup [.int (lcmD fs)]) := upd_same
      generalize upd H c (.tup [.int (lcmD fs)]) = H1 at *
      refine ⟨_, rfl, a, rfl, ⟨_, SqL.of (s1 _ _ ea)⟩, fun D nD => ?_⟩
      refine lc_list (xs := rs.map V.ref) (fun i H' => Same H1 H' ∧ H' D = some (.lst (((fs.map fun f => f.1 * (lcmD fs / f.2)).take i).map V.int))) ⟨same_upd nD, upd_same⟩ (fun i H' _ hP => SqL.of (hP.1 _ _ (s1 _ _ ea))) (fun i x H' hx hP => ?_) (fun H' hP => ?_)
      · obtain ⟨r, hr, rfl⟩ := ref_get hx
        obtain ⟨f, hf, ff⟩ := eg i r hr
        have fr := hP.1 _ _ (s1 _ _ ff.1)
        refine ⟨r, [.int f.1, .int f.2], rfl, SqT.of fr, rfl, _, _, rfl, _, _, rfl, rfl, rfl, ?_⟩
        unfold tYes
        refine iteT ?_
        have dv := ediv_abs (a := lcmD fs) ff.2.1
        have hg : (fs.map fun f => f.1 * (lcmD fs / f.2))[i]? = some (f.1 * (lcmD fs / f.2)) := by
          rw [List.getElem?_map, hf]
          rfl
        refine ⟨_, rfl, _, rfl, _, rfl, _, _, rfl, rfl, wide_div ff.2.1 ff.2.2.2 (by decide) (by decide), _, _, rfl, rfl, cmul ff.2.2.1 (Nat.lt_of_le_of_lt dv lim2), _, hP.2, ?_, ?_, ?_⟩
        · rw [List.length_map, List.length_take]
          exact Nat.lt_of_le_of_lt (Nat.min_le_right _ _) (small1000 (by rw [List.length_map]; omega))
        · intro x o hxo
          have : x ≠ D := ne_of_none hxo nD
          rw [upd_ne this]
          exact hP.1 _ _ hxo
        · rw [upd_same, take_get hg, List.map_append]
          rfl
      · obtain ⟨sH, eD⟩ := hP
        rw [List.length_map, show rs.length = (fs.map fun f => f.1 * (lcmD fs / f.2)).length by rw [List.length_map, el], List.take_length] at eD
        refine ⟨D, _, rfl, .inl ⟨SqL.of eD, fun t nt => ?_⟩⟩
        refine cat_h ((same_upd nt) _ _ (sH _ _ hc)) upd_same (by rw [List.length_map, List.length_map]; show 1 + fs.length ≤ 1000; omega) fun H5 r5 s5 hr5 => ?_
        exact q _ _ (((s1.trans sH).trans (same_upd nt)).trans s5) hr5

theorem no_get {α : Type} {j : Nat} {r : α} {P : Prop} (h : ([] : List α)[j]? = some r) : P := by
  simp at h
def spCoord : Sp := fun vs H Q _ => ∃ (a : Addr) (w : Int) (xs : List Int), vs = [.ref a] ∧ Vc H a (w :: xs) ∧ 0 < w ∧ w.natAbs < 2 ^ 290 ∧ (∀ x ∈ xs, x.natAbs < 2 ^ 290) ∧ xs.length ≤ 100 ∧ ∀ (H' : Hp) (l : Addr), Same H H' → FL H' l (xs.map fun x => (frN x w, frD x w)) 290 → Q (.ref l) H'
abbrev s_coordinates : Stmt := topS 13
theorem sc_coordinates : FnScope ["point", "entry"] ["point"] (defScope s_coordinates) := ⟨rfl, rfl, rfl, by decide +kernel, rfl, by decide +kernel, by decide +kernel⟩
theorem ok_coord {f : Addr} {fd : FuncData} {k : Nat} (F : Fun K "coordinates" "coordinates" s_coordinates f fd) (Z : Glb mg)
    (Cfraction : Call P w K mg base k "fraction" ["a", "b"] spFr) : FnOk P w K mg base CX0 (k + 1) f fd ["point"] spCoord := by
  refine F.ok sc_coordinates (fun vs H Q E h => ?_) (fun cdv A outer s H vs Q E hr h => ?_)
  · obtain ⟨a, w, xs, rfl, _⟩ := h
    rfl
  · obtain ⟨a, w0, xs, rfl, hv, w1, hw, hB, hl, q⟩ := h
    refine ⟨_, (pss_one (ps_ret (pe_lc (own := [("entry", 1)]) (g := gName 1) (tt := tYes) (by rfl) sc_coordinates.nd (pi_tup (pe_slice sl_tupA (pv 0) (po_some pe_int) po_none)) (blkOk_by (own := [("entry", 1)]) (N := ["point", "entry"]) (sc := defScope s_coordinates) (by first | decide +kernel | kernel_rfl)) (fun _ _ _ _ _ => (pg_name (i := 1) sc_coordinates.nd rfl (.inl rfl))) (fun _ _ _ _ _ => pts_nil) (fun _ _ _ _ _ => (pe_call Cfraction.G hr (by rfl) Cfraction.m Cfraction.kp Cfraction.b .nil pass0 (pa_cons (pv 1) (pa_cons (pe_ix (r := rIxT K) ix_tup (pv 0) pe_int (fun _ _ => rfl)) pa_nil))))))), ?_⟩
    refine ⟨_, rfl, 1, rfl, ?_⟩
    unfold tNoPart
    refine sl_h hv fun H1 r1 s1 hr1 => ?_
    have e1 : cutV ((w0 :: xs).map V.int) (some 1) none = xs.map V.int := by rw [show (1 : Int) = ((1 : Nat) : Int) from rfl, cut_drop]; rfl
    rw [e1] at hr1
    refine ⟨r1, rfl, ⟨_, SqT.of hr1⟩, fun D nD => ?_⟩
    refine lc_tup (xs := xs.map V.int) (fun i H' => Same H1 H' ∧ ∃ rs : List Addr, H' D = some (.lst (rs.map V.ref)) ∧ rs.length = i ∧ ∀ j r, rs[j]? = some r → ∃ x, xs[j]? = some x ∧ Fr H' r (frN x w0) (frD x w0) 290) ⟨same_upd nD, [], upd_same, rfl, fun j r h => no_get h⟩ (fun i H' _ hP => SqT.of (hP.1 _ _ hr1)) (fun i x H' hx hP => ?_) (fun H' hP => ?_)
    · obtain ⟨sH, rs, eD, lr, gr⟩ := hP
      obtain ⟨n, hn, rfl⟩ := map_get hx
      have hi := lt_of_get hn
      refine ⟨rfl, ?_⟩
      unfold tYes
      refine iteT ?_
      have hn2 := hB n (List.mem_of_getElem? hn)
      refine ⟨_, rfl, _, rfl, _, _, _, _, rfl, rfl, SqT.of (sH _ _ (s1 _ _ hv)), atI_nat (j := 0) rfl, n, w0, rfl, w1, up_pow hn2 (by decide), up_pow hw (by decide), fun t nt => ?_⟩
      have st := same_upd (o := .tup [.int (frN n w0), .int (frD n w0)]) nt
      have Dt : D ≠ t := ne_of_none eD nt
      refine ⟨_, st _ _ eD, by rw [List.length_map]; exact small1000 (by omega), ?_, rs ++ [t], by rw [upd_same, List.map_append]; rfl, by rw [List.length_append, lr]; rfl, fun j r hr => ?_⟩
      · intro y o hy
        have : y ≠ D := ne_of_none hy nD
        rw [upd_ne this]
        exact st _ _ (sH _ _ hy)
      · rw [List.getElem?_append] at hr
        split at hr
        · obtain ⟨y, h1, h2⟩ := gr j r hr
          exact ⟨y, h1, by rw [upd_ne (ne_of h2.1 eD (fun z => nomatch z))]; exact st _ _ h2.1, h2.2⟩
        · rename_i h0
          have hj : j = i := by
            have := lt_of_get hr
            rw [List.length_singleton] at this
            omega
          subst hj
          rw [lr, Nat.sub_self] at hr
          cases hr
          exact ⟨n, hn, by rw [upd_ne Dt.symm]; exact upd_same, frD_pos w1, Nat.lt_of_le_of_lt (frN_abs (by omega)) hn2, Nat.lt_of_le_of_lt (frD_abs (by omega)) hw⟩
    · obtain ⟨sH, rs, eD, lr, gr⟩ := hP
      refine q _ _ (s1.trans sH) ⟨rs, eD, by rw [List.length_map]; rw [List.length_map] at lr; exact lr, fun i r hr => ?_⟩
      obtain ⟨x, h1, h2⟩ := gr i r hr
      exact ⟨(frN x w0, frD x w0), by rw [List.getElem?_map, h1]; rfl, h2⟩
abbrev s__law_coordinates : Stmt := topS 30
theorem sc__law_coordinates : FnScope ["point", "a"] ["point"] (defScope s__law_coordinates) := ⟨rfl, rfl, rfl, by decide +kernel, rfl, by decide +kernel, by decide +kernel⟩
theorem ok_lcoord {f : Addr} {fd : FuncData} {k : Nat} (F : Fun K "_law_coordinates" "_law_coordinates" s__law_coordinates f fd) (Z : Glb mg)
    (C_law_frac : Call P w K mg base k "_law_frac" ["a", "b"] spFr) : FnOk P w K mg base CX0 (k + 1) f fd ["point"] spCoord := by
  refine F.ok sc__law_coordinates (fun vs H Q E h => ?_) (fun cdv A outer s H vs Q E hr h => ?_)
  · obtain ⟨a, w, xs, rfl, _⟩ := h
    rfl
  · obtain ⟨a, w0, xs, rfl, hv, w1, hw, hB, hl, q⟩ := h
    refine ⟨_, (pss_one (ps_ret (pe_lc (own := [("a", 1)]) (g := gName 1) (tt := tYes) (by rfl) sc__law_coordinates.nd (pi_tup (pe_slice sl_tupA (pv 0) (po_some pe_int) po_none)) (blkOk_by (own := [("a", 1)]) (N := ["point", "a"]) (sc := defScope s__law_coordinates) (by first | decide +kernel | kernel_rfl)) (fun _ _ _ _ _ => (pg_name (i := 1) sc__law_coordinates.nd rfl (.inl rfl))) (fun _ _ _ _ _ => pts_nil) (fun _ _ _ _ _ => (pe_call C_law_frac.G hr (by rfl) C_law_frac.m C_law_frac.kp C_law_frac.b .nil pass0 (pa_cons (pv 1) (pa_cons (pe_ix (r := rIxT K) ix_tup (pv 0) pe_int (fun _ _ => rfl)) pa_nil))))))), ?_⟩
    refine ⟨_, rfl, 1, rfl, ?_⟩
    unfold tNoPart
    refine sl_h hv fun H1 r1 s1 hr1 => ?_
    have e1 : cutV ((w0 :: xs).map V.int) (some 1) none = xs.map V.int := by rw [show (1 : Int) = ((1 : Nat) : Int) from rfl, cut_drop]; rfl
    rw [e1] at hr1
    refine ⟨r1, rfl, ⟨_, SqT.of hr1⟩, fun D nD => ?_⟩
    refine lc_tup (xs := xs.map V.int) (fun i H' => Same H1 H' ∧ ∃ rs : List Addr, H' D = some (.lst (rs.map V.ref)) ∧ rs.length = i ∧ ∀ j r, rs[j]? = some r → ∃ x, xs[j]? = some x ∧ Fr H' r (frN x w0) (frD x w0) 290) ⟨same_upd nD, [], upd_same, rfl, fun j r h => no_get h⟩ (fun i H' _ hP => SqT.of (hP.1 _ _ hr1)) (fun i x H' hx hP => ?_) (fun H' hP => ?_)
    · obtain ⟨sH, rs, eD, lr, gr⟩ := hP
      obtain ⟨n, hn, rfl⟩ := map_get hx
      have hi := lt_of_get hn
      refine ⟨rfl, ?_⟩
      unfold tYes
      refine iteT ?_
      have hn2 := hB n (List.mem_of_getElem? hn)
      refine ⟨_, rfl, _, rfl, _, _, _, _, rfl, rfl, SqT.of (sH _ _ (s1 _ _ hv)), atI_nat (j := 0) rfl, n, w0, rfl, w1, up_pow hn2 (by decide), up_pow hw (by decide), fun t nt => ?_⟩
      have st := same_upd (o := .tup [.int (frN n w0), .int (frD n w0)]) nt
      have Dt : D ≠ t := ne_of_none eD nt
      refine ⟨_, st _ _ eD, by rw [List.length_map]; exact small1000 (by omega), ?_, rs ++ [t], by rw [upd_same, List.map_append]; rfl, by rw [List.length_append, lr]; rfl, fun j r hr => ?_⟩
      · intro y o hy
        have : y ≠ D := ne_of_none hy nD
        rw [upd_ne this]
        exact st _ _ (sH _ _ hy)
      · rw [List.getElem?_append] at hr
        split at hr
        · obtain ⟨y, h1, h2⟩ := gr j r hr
          exact ⟨y, h1, by rw [upd_ne (ne_of h2.1 eD (fun z => nomatch z))]; exact st _ _ h2.1, h2.2⟩
        · rename_i h0
          have hj : j = i := by
            have := lt_of_get hr
            rw [List.length_singleton] at this
            omega
          subst hj
          rw [lr, Nat.sub_self] at hr
          cases hr
          exact ⟨n, hn, by rw [upd_ne Dt.symm]; exact upd_same, frD_pos w1, Nat.lt_of_le_of_lt (frN_abs (by omega)) hn2, Nat.lt_of_le_of_lt (frD_abs (by omega)) hw⟩
    · obtain ⟨sH, rs, eD, lr, gr⟩ := hP
      refine q _ _ (s1.trans sH) ⟨rs, eD, by rw [List.length_map]; rw [List.length_map] at lr; exact lr, fun i r hr => ?_⟩
      obtain ⟨x, h1, h2⟩ := gr i r hr
      exact ⟨(frN x w0, frD x w0), by rw [List.getElem?_map, h1]; rfl, h2⟩
theorem prod_take {fs : List (Int × Int)} {i : Nat} {f : Int × Int} (h : fs[i]? = some f) : prodD (fs.take (i + 1)) = prodD (fs.take i) * f.2 := by
  unfold prodD
  rw [take_get h, List.foldl_append]
  rfl
theorem prod_lim {fs : List (Int × Int)} {B : Nat} (hB : ∀ f ∈ fs, f.2.natAbs < 2 ^ B) : ∀ i, (prodD (fs.take i)).natAbs < 2 ^ (B * i + 1)
  | 0 => by
    show 1 < 2 ^ (B * 0 + 1)
    rw [Nat.mul_zero]
    decide
  | i + 1 => by
    have ih := prod_lim hB i
    cases e : fs[i]? with
    | none =>
      have : fs.take (i + 1) = fs.take i := by
        have := List.getElem?_eq_none_iff.mp e
        rw [List.take_of_length_le (by omega), List.take_of_length_le this]
      rw [this]
      exact up_pow ih (by rw [Nat.mul_succ]; omega)
    | some f =>
      rw [prod_take e]
      exact up_pow (mul_pow ih (hB f (List.mem_of_getElem? e))) (by rw [Nat.mul_succ]; omega)
abbrev s__law_of_coordinates : Stmt := topS 31
theorem sc__law_of_coordinates : FnScope ["row", "below", "x"] ["row"] (defScope s__law_of_coordinates) := ⟨rfl, rfl, rfl, by decide +kernel, rfl, by decide +kernel, by decide +kernel⟩
/-- B bits a divisor, few of them -/
def spOfC : Sp := fun vs H Q _ => ∃ (a : Addr) (fs : List (Int × Int)) (B : Nat), vs = [.ref a] ∧ FL H a fs 300 ∧ (∀ f ∈ fs, Low f) ∧ (∀ f ∈ fs, f.2.natAbs < 2 ^ B) ∧ (∀ f ∈ fs, f.1.natAbs < 2 ^ 90) ∧ B * fs.length ≤ 200 ∧ fs.length ≤ 10 ∧ ∀ (H' : Hp) (r : Addr), Same H H' → Vc H' r (over1 (lcmD fs) fs) → Q (.ref r) H'
theorem ok_ofc {f : Addr} {fd : FuncData} {k : Nat} (F : Fun K "_law_of_coordinates" "_law_of_coordinates" s__law_of_coordinates f fd) (Z : Glb mg)
    (C_law_prim : Call P w K mg base k "_law_prim" ["v"] spPrimK) : FnOk P w K mg base CX0 (k + 1) f fd ["row"] spOfC := by
  refine F.ok sc__law_of_coordinates (fun vs H Q E h => ?_) (fun cdv A outer s H vs Q E hr h => ?_)
  · obtain ⟨a, fs, B, rfl, _⟩ := h
    rfl
  · obtain ⟨a, fs, B, rfl, hF, hlow, hB, hA, bl, l10, q⟩ := h
    obtain ⟨rs, ea, el, eg⟩ := hF
    refine ⟨_, (pss_cons (ps_set (i := 1) sc__law_of_coordinates.nd rfl (.inr rfl) pe_int)
      (pss_cons (ps_for PassesOwn.never rfl (pi_list (pv 0)) (pg_name (i := 2) sc__law_of_coordinates.nd rfl (.inl rfl)) (pss_one (ps_set (i := 1) sc__law_of_coordinates.nd rfl (.inr rfl) (pe_op op_mulW (pv 1) (pe_ix (r := rIxT K) ix_tup (pv 2) pe_int (fun _ _ => rfl))))))
      (pss_one (ps_ret (pe_call C_law_prim.G hr (by rfl) C_law_prim.m C_law_prim.kp C_law_prim.b .nil pass0 (pa_cons (pe_op op_cat (pe_lst (pa_cons (pv 1) pa_nil)) (pe_lc (own := [("x", 2)]) (g := gName 2) (tt := tYes) (by rfl) sc__law_of_coordinates.nd (pi_list (pv 0)) (blkOk_by (own := [("x", 2)]) (N := ["row", "below", "x"]) (sc := defScope s__law_of_coordinates) (by first | decide +kernel | kernel_rfl)) (fun _ _ _ _ _ => (pg_name (i := 2) sc__law_of_coordinates.nd rfl (.inl rfl))) (fun _ _ _ _ _ => pts_nil) (fun _ _ _ _ _ => (pe_op op_mulW (pe_ix (r := rIxT K) ix_tup (pv 2) pe_int (fun _ _ => rfl)) (pe_op op_fdivW (pv 1) (pe_ix (r := rIxT K) ix_tup (pv 2) pe_int (fun _ _ => rfl))))))) pa_nil)))))), ?_⟩
    refine ⟨_, rfl, a, rfl, ⟨_, SqL.of ea⟩, ?_⟩
    refine for_list (xs := rs.map V.ref) (fun i σ H' => H = H' ∧ ∃ y2 : Option V, σ = [some (.ref a), some (.int (prodD (fs.take i))), y2]) ⟨rfl, _, rfl⟩ (fun i σ H' _ hP => by obtain ⟨rfl, _⟩ := hP; exact SqL.of ea) (fun i x σ H' hx hP => ?_) (fun σ H' hP => ?_)
    · obtain ⟨rfl, y2, rfl⟩ := hP
      obtain ⟨r, hr, rfl⟩ := ref_get hx
      obtain ⟨f, hf, ff⟩ := eg i r hr
      have lim := prod_lim hB i
      have hi := lt_of_get hf
      have bi : B * i ≤ B * fs.length := Nat.mul_le_mul_left _ (by omega)
      refine ⟨_, rfl, _, rfl, _, _, _, _, rfl, rfl, SqT.of ff.1, atI_nat (j := 1) rfl, _, _, rfl, rfl, wide_mul lim ff.2.2.2 (by omega) (by decide) (by omega), rfl, some (.ref r), ?_⟩
      rw [prod_take hf]
      rfl
    · obtain ⟨rfl, y2, rfl⟩ := hP
      rw [List.length_map, el, List.take_length]
      have lim : (prodD fs).natAbs < 2 ^ 201 := by
        have := prod_lim hB fs.length
        rw [List.take_length] at this
        exact up_pow this (by omega)
      refine ⟨_, rfl, Nat.le_of_lt (small1000 (show 1 ≤ 1000 by decide)), fun c nc => ?_⟩
      have s1 := same_upd (o := .lst [.int (prodD fs)]) nc
      have hc : (upd H c (.lst [.int (prodD fs)])) c = some (.lst [.int (prodD fs)]) := upd_same
      generalize upd H c (.lst [.int (prodD fs)]) = H1 at *
      refine ⟨_, rfl, a, rfl, ⟨_, SqL.of (s1 _ _ ea)⟩, fun D nD => ?_⟩
      refine lc_list (xs := rs.map V.ref) (fun i H' => Same H1 H' ∧ H' D = some (.lst (((fs.map fun f => f.1 * (prodD fs / f.2)).take i).map V.int))) ⟨same_upd nD, upd_same⟩ (fun i H' _ hP => SqL.of (hP.1 _ _ (s1 _ _ ea))) (fun i x H' hx hP => ?_) (fun H' hP => ?_)
      · obtain ⟨r, hr, rfl⟩ := ref_get hx
        obtain ⟨f, hf, ff⟩ := eg i r hr
        have fr := hP.1 _ _ (s1 _ _ ff.1)
        refine ⟨rfl, ?_⟩
        unfold tYes
        refine iteT ?_
        have dv := ediv_abs (a := prodD fs) ff.2.1
        have hg : (fs.map fun f => f.1 * (prodD fs / f.2))[i]? = some (f.1 * (prodD fs / f.2)) := by
          rw [List.getElem?_map, hf]
          rfl
        refine ⟨_, rfl, _, _, _, _, rfl, rfl, SqT.of fr, atI_nat (j := 0) rfl, _, rfl, _, rfl, _, _, _, _, rfl, rfl, SqT.of fr, atI_nat (j := 1) rfl, _, _, rfl, rfl, wide_div ff.2.1 ff.2.2.2 (by decide) (by decide), _, _, rfl, rfl, cmul ff.2.2.1 (Nat.lt_of_le_of_lt dv lim), _, hP.2, ?_, ?_, ?_⟩
        · rw [List.length_map, List.length_take]
          exact Nat.lt_of_le_of_lt (Nat.min_le_right _ _) (small1000 (by rw [List.length_map]; omega))
        · intro x o hxo
          have : x ≠ D := ne_of_none hxo nD
          rw [upd_ne this]
          exact hP.1 _ _ hxo
        · rw [upd_same, take_get hg, List.map_append]
          rfl
      · obtain ⟨sH, eD⟩ := hP
        rw [List.length_map, show rs.length = (fs.map fun f => f.1 * (prodD fs / f.2)).length by rw [List.length_map, el], List.take_length] at eD
        refine ⟨c, D, _, _, rfl, rfl, sH _ _ hc, eD, ?_, fun t nt => ?_⟩
        · rw [List.length_map, List.length_map]
          exact Nat.le_of_lt (small1000 (by show 1 + fs.length ≤ 1000; omega))
        refine ⟨false, t, over1 (prodD fs) fs, rfl, upd_same, by unfold over1; rw [List.length_cons, List.length_map]; omega, fun n hn => ?_, fun H5 r5 s5 R5 => ?_⟩
        · rcases List.mem_cons.mp hn with rfl | hn
          · exact up_pow lim (by decide)
          · obtain ⟨f, hf, rfl⟩ := List.mem_map.mp hn
            have dv := ediv_abs (a := prodD fs) (hlow f hf).1
            exact up_pow (mul_pow (hA f hf) (Nat.lt_of_le_of_lt dv lim)) (by decide)
        · rw [made_same hlow] at R5
          exact q _ _ (((s1.trans sH).trans (same_upd nt)).trans s5) R5
abbrev s_made_inequality : Stmt := topS 14
theorem sc_made_inequality : FnScope ["row"] ["row"] (defScope s_made_inequality) := ⟨rfl, rfl, rfl, by decide +kernel, rfl, by decide +kernel, by decide +kernel⟩
def spMI (C : Addr) : Sp := fun vs H Q E => ∃ (a : Addr) (ns : List Int), vs = [.ref a] ∧ Vc H a ns ∧ ns.length ≤ 1000 ∧ (∀ n ∈ ns, n.natAbs < 2 ^ 299) ∧ (((ns.drop 1).any fun n => n != 0) = true → ∀ (H' : Hp) (r : Addr), Same H H' → Vc H' r (prim ns) → Q (.ref r) H') ∧ (((ns.drop 1).any fun n => n != 0) = false → ∀ H', Same H H' → E (.ref C) none H')
theorem ok_mi {f : Addr} {fd : FuncData} {k : Nat} {C : Addr} (F : Fun K "made_inequality" "made_inequality" s_made_inequality f fd) (Z : Glb mg) (E_BadInequality : Er K mg "BadInequality" C)
    (Cprimitive : Call P w K mg base k "primitive" ["v"] spPrim) : FnOk P w K mg base (L2.CX P w) (k + 1) f fd ["row"] (spMI C) := by
  refine F.okX sc_made_inequality (fun vs H Q E h => ?_) (fun cdv A outer s H vs Q E hr h => ?_)
  · obtain ⟨a, ns, rfl, _⟩ := h
    rfl
  · obtain ⟨a, ns, rfl, hv, hl, hB, q, qe⟩ := h
    refine ⟨_, (pss_cons (ps_if (pt_not (pt_val (pe_callB (cr_anyT rfl) (by rfl) Z.m_any (by decide +kernel) (pa_cons (pe_slice (r := rSlA K) sl_tupA (pv 0) (po_some pe_int) po_none) pa_nil)))) (pss_one (raiseE E_BadInequality rfl (takes_of rfl rfl rfl rfl) (by rfl))) pss_nil)
      (pss_one (ps_ret (pe_call Cprimitive.G hr (by rfl) Cprimitive.m Cprimitive.kp Cprimitive.b .nil pass0 (pa_cons (pv 0) pa_nil))))), ?_⟩
    refine ⟨_, rfl, 1, rfl, ?_⟩
    unfold tNoPart
    refine sl_h hv fun H1 r1 s1 hr1 => ?_
    rw [show (1 : Int) = ((1 : Nat) : Int) from rfl, cut_drop, ← List.map_drop] at hr1
    refine ⟨r1, ns.drop 1, rfl, SqT.of hr1, _, rfl, ?_⟩
    cases e : ((ns.drop 1).any fun n => n != 0) with
    | true => exact iteF ⟨_, rfl, a, ns, rfl, hv.same s1, hl, hB, fun H2 r s2 R => q e H2 r (s1.trans s2) R⟩
    | false => exact iteT (qe e H1 s1)
abbrev s_reversed_inequality : Stmt := topS 19
theorem sc_reversed_inequality : FnScope ["inequality", "entry"] ["inequality"] (defScope s_reversed_inequality) := ⟨rfl, rfl, rfl, by decide +kernel, rfl, by decide +kernel, by decide +kernel⟩
def spRev : Sp := fun vs H Q _ => ∃ (a : Addr) (ns : List Int), vs = [.ref a] ∧ Vc H a ns ∧ ns.length ≤ 900 ∧ ∀ (H' : Hp) (r : Addr), Same H H' → Vc H' r (ns.map fun n => -n) → Q (.ref r) H'
theorem ok_rev {f : Addr} {fd : FuncData} {k : Nat} (F : Fun K "reversed_inequality" "reversed_inequality" s_reversed_inequality f fd) (Z : Glb mg) : FnOk P w K mg base CX0 (k + 1) f fd ["inequality"] spRev := by
  refine F.ok sc_reversed_inequality (fun vs H Q E h => ?_) (fun cdv A outer s H vs Q E hr h => ?_)
  · obtain ⟨a, ns, rfl, _⟩ := h
    rfl
  · obtain ⟨a, ns, rfl, hv, hl, q⟩ := h
    refine ⟨_, (pss_one (ps_ret (pe_callTy call_tuple_of (by rfl) Z.m_tuple (by decide +kernel) (pa_cons (pe_lc (own := [("entry", 1)]) (g := gName 1) (tt := tYes) (by rfl) sc_reversed_inequality.nd (pi_tup (pv 0)) (blkOk_by (own := [("entry", 1)]) (N := ["inequality", "entry"]) (sc := defScope s_reversed_inequality) (by first | decide +kernel | kernel_rfl)) (fun _ _ _ _ _ => (pg_name (i := 1) sc_reversed_inequality.nd rfl (.inl rfl))) (fun _ _ _ _ _ => pts_nil) (fun _ _ _ _ _ => (pe_un un_neg (pv 1)))) pa_nil)))), ?_⟩
    refine ⟨_, rfl, a, rfl, ⟨_, SqT.of hv⟩, fun D nD => ?_⟩
    refine lc_tup (xs := ns.map V.int) (fun i H' => Same H H' ∧ H' D = some (.lst (((ns.map fun n => -n).take i).map V.int))) ⟨same_upd nD, upd_same⟩ (fun i H' _ hP => SqT.of (hP.1 _ _ hv)) (fun i x H' hx hP => ?_) (fun H' hP => ?_)
    · obtain ⟨n, hn, rfl⟩ := map_get hx
      refine ⟨rfl, ?_⟩
      unfold tYes
      refine iteT ?_
      have hg : (ns.map fun n => -n)[i]? = some (-n) := by
        rw [List.getElem?_map, hn]
        rfl
      refine ⟨_, rfl, _, rfl, _, hP.2, ?_, ?_, ?_⟩
      · rw [List.length_map, List.length_take]
        exact Nat.lt_of_le_of_lt (Nat.min_le_right _ _) (small1000 (by rw [List.length_map]; omega))
      · intro x o hxo
        have : x ≠ D := ne_of_none hxo nD
        rw [upd_ne this]
        exact hP.1 _ _ hxo
      · rw [upd_same, take_get hg, List.map_append]
        rfl
    · obtain ⟨sH, eD⟩ := hP
      rw [List.length_map, show ns.length = (ns.map fun n => -n).length by rw [List.length_map], List.take_length] at eD
      exact ⟨D, _, rfl, .inl ⟨SqL.of eD, fun t nt => q _ _ (sH.trans (same_upd nt)) upd_same⟩⟩
abbrev s_value_at : Stmt := topS 15
theorem sc_value_at : FnScope ["inequality", "point"] ["inequality", "point"] (defScope s_value_at) := ⟨rfl, rfl, rfl, by decide +kernel, rfl, by decide +kernel, by decide +kernel⟩
theorem dotz_lim : ∀ (ns ms : List Int), (∀ n ∈ ns, n.natAbs < 2 ^ 100) → (∀ n ∈ ms, n.natAbs < 2 ^ 100) → (dotz ns ms).sum.natAbs ≤ ns.length * 2 ^ 200
  | [], ms, _, _ => Nat.zero_le _
  | n :: ns, [], _, _ => Nat.zero_le _
  | n :: ns, m :: ms, h1, h2 => by
    have ih := dotz_lim ns ms (fun x hx => h1 x (List.mem_cons_of_mem _ hx)) (fun x hx => h2 x (List.mem_cons_of_mem _ hx))
    have hm := mul_pow (h1 n List.mem_cons_self) (h2 m List.mem_cons_self)
    show ((n * m :: dotz ns ms).sum).natAbs ≤ (ns.length + 1) * 2 ^ 200
    rw [List.sum_cons]
    have : (100 + 100 : Nat) = 200 := rfl
    rw [this] at hm
    omega
def spVal : Sp := fun vs H Q _ => ∃ (a b : Addr) (ns : List Int) (w : Int) (xs : List Int), vs = [.ref a, .ref b] ∧ Vc H a ns ∧ Vc H b (w :: xs) ∧ 0 < w ∧ ns.length = xs.length + 1 ∧ ns.length ≤ 100 ∧ (∀ n ∈ ns, n.natAbs < 2 ^ 100) ∧ (∀ n ∈ w :: xs, n.natAbs < 2 ^ 100) ∧
  ∀ (H' : Hp) (r : Addr), Same H H' → H' r = some (.tup [.int (frN (dotz ns (w :: xs)).sum w), .int (frD (dotz ns (w :: xs)).sum w)]) → Q (.ref r) H'
theorem ok_val {f : Addr} {fd : FuncData} {k : Nat} (F : Fun K "value_at" "value_at" s_value_at f fd) (Z : Glb mg)
    (Cfraction : Call P w K mg base k "fraction" ["a", "b"] spFr) (Cdot : Call P w K mg base k "dot" ["v", "w"] spDot) : FnOk P w K mg base CX0 (k + 1) f fd ["inequality", "point"] spVal := by
  refine F.ok sc_value_at (fun vs H Q E h => ?_) (fun cdv A outer s H vs Q E hr h => ?_)
  · obtain ⟨a, b, ns, w0, xs, rfl, _⟩ := h
    rfl
  · obtain ⟨a, b, ns, w0, xs, rfl, ha, hb, w1, hl, hl2, B1, B2, q⟩ := h
    refine ⟨_, (pss_one (ps_ret (pe_call Cfraction.G hr (by rfl) Cfraction.m Cfraction.kp Cfraction.b .nil pass0 (pa_cons (pe_call Cdot.G hr (by rfl) Cdot.m Cdot.kp Cdot.b .nil pass0 (pa_cons (pv 0) (pa_cons (pv 1) pa_nil))) (pa_cons (pe_ix (r := rIxT K) ix_tup (pv 1) pe_int (fun _ _ => rfl)) pa_nil))))), ?_⟩
    refine ⟨_, rfl, _, rfl, a, b, ns, w0 :: xs, rfl, ha, hb, by rw [List.length_cons]; exact hl, by omega, fun n hn => up_pow (B1 n hn) (by decide), fun n hn => up_pow (B2 n hn) (by decide), fun H1 s1 => ?_⟩
    have lim := dotz_lim ns (w0 :: xs) B1 B2
    have lim2 : (dotz ns (w0 :: xs)).sum.natAbs < 2 ^ 299 := by
      have h1 : ns.length * 2 ^ 200 ≤ 100 * 2 ^ 200 := Nat.mul_le_mul_right _ hl2
      have h2 : 100 * 2 ^ 200 < 2 ^ 299 := by decide
      omega
    exact ⟨_, rfl, _, _, _, _, rfl, rfl, SqT.of (hb.same s1), atI_nat (j := 0) rfl, _, _, rfl, w1, lim2, up_pow (B2 w0 List.mem_cons_self) (by decide), fun p np => q _ _ (s1.trans (same_upd np)) upd_same⟩

/-! ### combined, middle -/
def stepC (t : List Int) (q : Int × List Int) : List Int := List.zipWith (fun a b => a + q.1 * b) t q.2
def comb (n : Nat) (ws : List Int) (vss : List (List Int)) : List Int := (ws.zip vss).foldl stepC (List.replicate n 0)
def combT (n : Nat) (ws : List Int) (vss : List (List Int)) (i : Nat) : List Int := ((ws.zip vss).take i).foldl stepC (List.replicate n 0)
theorem combT_step {n i : Nat} {ws : List Int} {vss : List (List Int)} {x : Int} {v : List Int} (h1 : ws[i]? = some x) (h2 : vss[i]? = some v) : combT n ws vss (i + 1) = stepC (combT n ws vss i) (x, v) := by
  unfold combT
  rw [take_get (List.getElem?_zip_eq_some (z := (x, v)) |>.mpr ⟨h1, h2⟩), List.foldl_append]
  rfl
theorem combT_len {n : Nat} {ws : List Int} {vss : List (List Int)} (hl : ws.length = vss.length) (hn : ∀ v ∈ vss, v.length = n) : ∀ i, (combT n ws vss i).length = n
  | 0 => by
    show (List.replicate n (0 : Int)).length = n
    exact List.length_replicate
  | i + 1 => by
    by_cases hi : i < ws.length
    · rw [combT_step (List.getElem?_eq_getElem hi) (List.getElem?_eq_getElem (by omega))]
      unfold stepC
      rw [List.length_zipWith, combT_len hl hn i, hn _ (List.getElem_mem _), Nat.min_self]
    · have : combT n ws vss (i + 1) = combT n ws vss i := by
        unfold combT
        have hz : (ws.zip vss).length ≤ i := by rw [List.length_zip]; omega
        rw [List.take_of_length_le (by omega), List.take_of_length_le hz]
      rw [this, combT_len hl hn i]
theorem combT_all {n : Nat} {ws : List Int} {vss : List (List Int)} (hl : ws.length = vss.length) : combT n ws vss ws.length = comb n ws vss := by
  unfold combT comb
  rw [List.take_of_length_le (by rw [List.length_zip]; omega)]
abbrev s_combined : Stmt := topS 16
theorem sc_combined : FnScope ["weights", "vectors", "total", "weight", "vector", "a", "b"] ["weights", "vectors"] (defScope s_combined) := ⟨rfl, rfl, rfl, by decide +kernel, rfl, by decide +kernel, by decide +kernel⟩
theorem rep_zero : ∀ n : Nat, (List.replicate n [V.int 0]).flatten = (List.replicate n (0 : Int)).map V.int
  | 0 => rfl
  | n + 1 => by
    rw [List.replicate_succ, List.replicate_succ, List.flatten_cons, rep_zero n]
    rfl
def spComb : Sp := fun vs H Q _ => ∃ (k : Bool) (a b : Addr) (ws : List Int) (vss : List (List Int)) (n : Nat), vs = [.ref a, .ref b] ∧ Tk k H a (ws.map V.int) ∧ VL H b vss ∧ ws.length = vss.length ∧ 1 ≤ vss.length ∧ vss.length ≤ 100 ∧ (∀ v ∈ vss, v.length = n) ∧ n ≤ 100 ∧ (∀ x ∈ ws, x.natAbs < 2 ^ 100) ∧ (∀ v ∈ vss, ∀ x ∈ v, x.natAbs < 2 ^ 100) ∧
  ∀ (H' : Hp) (r : Addr), Same H H' → Vc H' r (comb n ws vss) → Q (.ref r) H'
theorem ok_comb {f : Addr} {fd : FuncData} {k : Nat} (F : Fun K "combined" "combined" s_combined f fd) (Z : Glb mg) : FnOk P w K mg base CX0 (k + 1) f fd ["weights", "vectors"] spComb := by
  refine F.ok sc_combined (fun vs H Q E h => ?_) (fun cdv A outer s H vs Q E hr h => ?_)
  · obtain ⟨kd, a, b, ws, vss, n, rfl, _⟩ := h
    rfl
  · obtain ⟨kd, a, b, ws, vss, n, rfl, ha, hb, hl, l1, l2, hn, n2, B1, B2, q⟩ := h
    refine ⟨_, (pss_cons (ps_set (i := 2) sc_combined.nd rfl (.inl rfl) (pe_op op_rep (pe_lst (pa_cons pe_int pa_nil)) (pe_callB call_len_seq (by rfl) Z.m_len PySem.boot_len (pa_cons (pe_ix (r := rIxL K) ix_list (pv 1) pe_int (fun _ _ => rfl)) pa_nil))))
      (pss_cons (ps_for PassesOwn.never rfl (pi_zipK (by rfl) Z.m_zip (pa_cons (pv 0) (pa_cons (pv 1) pa_nil))) (pg_tup rfl (pgs_cons (pg_name (i := 3) sc_combined.nd rfl (.inr rfl)) (pgs_cons (pg_name (i := 4) sc_combined.nd rfl (.inl rfl)) pgs_nil))) (pss_one (ps_setLc (i := 2) (own := [("a", 5), ("b", 6)]) (g := gTup K 2 (gCons (gName 5) (gCons (gName 6) gNil))) (tt := tYes) (by rfl) sc_combined.nd rfl rfl (sw_true rfl rfl rfl (by decide +kernel)) (pi_zipK (by rfl) Z.m_zip (pa_cons (pv 2) (pa_cons (pv 4) pa_nil))) (blkOk_by (own := [("a", 5), ("b", 6)]) (N := ["weights", "vectors", "total", "weight", "vector", "a", "b"]) (sc := defScope s_combined) (by first | decide +kernel | kernel_rfl)) (fun _ _ _ _ _ => (pg_tup rfl (pgs_cons (pg_name (i := 5) sc_combined.nd rfl (.inl rfl)) (pgs_cons (pg_name (i := 6) sc_combined.nd rfl (.inl rfl)) pgs_nil)))) (fun _ _ _ _ _ => pts_nil) (fun _ _ _ _ _ => (pe_op op_add (pv 5) (pe_op op_mulW (pv 3) (pv 6)))))))
      (pss_one (ps_ret (pe_callTy call_tuple_of (by rfl) Z.m_tuple (by decide +kernel) (pa_cons (pv 2) pa_nil)))))), ?_⟩
    obtain ⟨rs, eb, lb, gb⟩ := hb
    have g0 : rs[0]? = some (rs[0]'(by omega)) := List.getElem?_eq_getElem (by omega)
    obtain ⟨v0, hv0, V0⟩ := gb 0 _ g0
    have ln0 : v0.length = n := hn v0 (List.mem_of_getElem? hv0)
    -- total = [0] * ..
    refine ⟨Nat.le_of_lt (small1000 (show 1 ≤ 1000 by decide)), fun z nz => ?_⟩
    have sz := same_upd (o := .lst [.int 0]) nz
    refine ⟨_, rfl, _, _, _, _, rfl, rfl, SqL.of (sz _ _ eb), atI_nat (get_ref g0), _, _, rfl, .inr (SqT.of (sz _ _ V0)), z, _, _, rfl, rfl, upd_same, by omega, by rw [List.length_map]; omega, ?_, fun t nt => ?_⟩
    · rw [List.length_map]
      exact Nat.le_of_lt (small1000 (by show 1 * v0.length ≤ 1000; omega))
    have st := sz.trans (same_upd (o := .lst (List.replicate (((v0.map V.int).length : Nat) : Int).toNat [V.int 0]).flatten) nt)
    have ht : (upd (upd H z (.lst [.int 0])) t (.lst (List.replicate (((v0.map V.int).length : Nat) : Int).toNat [V.int 0]).flatten)) t = some (.lst ((List.replicate n (0 : Int)).map V.int)) := by
      rw [upd_same, rep_zero, List.length_map, ln0]
      rfl
    generalize upd (upd H z (.lst [.int 0])) t (.lst (List.replicate (((v0.map V.int).length : Nat) : Int).toNat [V.int 0]).flatten) = H1 at *
    -- the loop
    refine ⟨_, rfl, _, rfl, kd, false, a, b, ws.map V.int, rs.map V.ref, rfl, (ha.same st).sk, SqL.of (st _ _ eb), ?_⟩
    refine for_it (walk_zipK (xs := ws.map V.int) (ys := rs.map V.ref) (n := ws.length) (by rw [List.length_map]) (by rw [List.length_map]; omega)) (fun i σ H' => Same H1 H' ∧ ∃ (t : Addr) (y3 y4 : Option V), σ = [some (.ref a), some (.ref b), some (.ref t), y3, y4, none, none] ∧ H' t = some (.lst ((combT n ws vss i).map V.int))) ⟨Same.refl _, t, _, _, rfl, ht⟩ (fun i σ H' _ hP => ⟨(ha.same (st.trans hP.1)).sk, SqL.of ((st.trans hP.1) _ _ eb)⟩) (fun i x σ H' H'' hi hP hY => ?_) (fun σ H' hP => ?_)
    · obtain ⟨sH, t1, y3, y4, rfl, ht1⟩ := hP
      obtain ⟨T, x1, y1, rfl, nT, rfl, hx, hy⟩ := hY
      obtain ⟨wi, hwi, rfl⟩ := map_get hx
      obtain ⟨r, hri, rfl⟩ := ref_get hy
      obtain ⟨v, hvi, V1⟩ := gb i r hri
      have lnv : v.length = n := hn v (List.mem_of_getElem? hvi)
      have sT := same_upd (o := .tup [.int wi, .ref r]) nT
      have sA := (st.trans sH).trans sT
      have V2 : Vc (upd H' T (.tup [.int wi, .ref r])) r v := sA _ _ V1
      have ht2 := sT _ _ ht1
      have sB := sH.trans sT
      have hTt : (upd H' T (.tup [.int wi, .ref r])) T = some (.tup [.int wi, .ref r]) := upd_same
      generalize upd H' T (.tup [.int wi, .ref r]) = H2 at *
      refine ⟨T, [.int wi, .ref r], rfl, SqT.of hTt, rfl, _, _, rfl, _, _, rfl, rfl, ?_⟩
      have lenT := combT_len (n := n) hl hn i
      refine ⟨_, rfl, _, rfl, false, true, t1, r, (combT n ws vss i).map V.int, v.map V.int, rfl, SqL.of ht2, SqT.of V2, fun D nD => ?_⟩
      refine lc_it (walk_zipK (xs := (combT n ws vss i).map V.int) (ys := v.map V.int) (n := n) (by rw [List.length_map]; exact lenT) (by rw [List.length_map]; exact lnv)) (fun j H' => Same H2 H' ∧ H' D = some (.lst (((combT n ws vss (i + 1)).take j).map V.int))) ⟨same_upd nD, upd_same⟩ (fun j H' _ hP => ⟨SqL.of (hP.1 _ _ ht2), SqT.of (hP.1 _ _ V2)⟩) (fun j x H' H'' hj hP hY => ?_) (fun H' hP => ?_)
      · obtain ⟨s2, eD⟩ := hP
        obtain ⟨T2, x2, y2, rfl, nT2, rfl, hx2, hy2⟩ := hY
        obtain ⟨aj, haj, rfl⟩ := map_get hx2
        obtain ⟨bj, hbj, rfl⟩ := map_get hy2
        have DT : D ≠ T2 := ne_of_none eD nT2
        have s3 := same_upd (o := .tup [.int aj, .int bj]) nT2
        refine ⟨T2, [.int aj, .int bj], rfl, SqT.of upd_same, rfl, _, _, rfl, _, _, rfl, rfl, rfl, ?_⟩
        unfold tYes
        refine iteT ?_
        have hg : (combT n ws vss (i + 1))[j]? = some (aj + wi * bj) := by
          rw [combT_step hwi hvi]
          unfold stepC
          rw [List.getElem?_zipWith, haj, hbj]
        refine ⟨_, rfl, _, rfl, _, rfl, _, _, rfl, rfl, cmul (B1 wi (List.mem_of_getElem? hwi)) (B2 v (List.mem_of_getElem? hvi) bj (List.mem_of_getElem? hbj)), _, _, rfl, rfl, _, s3 _ _ eD, ?_, ?_, ?_⟩
        · rw [List.length_map, List.length_take]
          exact Nat.lt_of_le_of_lt (Nat.min_le_left _ _) (small1000 (by omega))
        · intro x o hxo
          have : x ≠ D := ne_of_none hxo nD
          rw [upd_ne this]
          exact s3 _ _ (s2 _ _ hxo)
        · rw [upd_same, take_get hg, List.map_append]
          rfl
      · obtain ⟨s2, eD⟩ := hP
        have e2 := combT_len (n := n) hl hn (i + 1)
        have e3 : (combT n ws vss (i + 1)).take n = combT n ws vss (i + 1) := List.take_of_length_le (by omega)
        rw [e3] at eD
        exact ⟨sB.trans s2, D, _, _, rfl, eD⟩
    · obtain ⟨sH, t1, y3, y4, rfl, ht1⟩ := hP
      rw [combT_all hl] at ht1
      exact ⟨_, rfl, t1, _, rfl, .inl ⟨SqL.of ht1, fun r nr => q _ _ ((st.trans sH).trans (same_upd nr)) upd_same⟩⟩
/-- the divisors of points -/
def wsOf (vss : List (List Int)) : List (Int × Int) := vss.map fun v => (0, v.headD 1)
def lcmW (vss : List (List Int)) : Int := lcmD (wsOf vss)
/-- the weights of a middle -/
def midW (vss : List (List Int)) : List Int := vss.map fun v => lcmW vss / v.headD 1
theorem wsOf_get {vss : List (List Int)} {i : Nat} {v : List Int} (h : vss[i]? = some v) : (wsOf vss)[i]? = some (0, v.headD 1) := by
  unfold wsOf
  rw [List.getElem?_map, h]
  rfl
theorem combT_lim {n : Nat} {ws : List Int} {vss : List (List Int)} (hl : ws.length = vss.length) (B1 : ∀ x ∈ ws, x.natAbs < 2 ^ 100) (B2 : ∀ v ∈ vss, ∀ x ∈ v, x.natAbs < 2 ^ 100) : ∀ i, ∀ x ∈ combT n ws vss i, x.natAbs ≤ i * 2 ^ 200
  | 0, x, hx => by
    have : x ∈ List.replicate n (0 : Int) := hx
    rw [List.eq_of_mem_replicate this]
    exact Nat.zero_le _
  | i + 1, x, hx => by
    by_cases hi : i < ws.length
    · have g1 : ws[i]? = some ws[i] := List.getElem?_eq_getElem hi
      have g2 : vss[i]? = some (vss[i]'(by omega)) := List.getElem?_eq_getElem (by omega)
      rw [combT_step g1 g2] at hx
      unfold stepC at hx
      obtain ⟨j, hj⟩ := List.getElem?_of_mem hx
      rw [List.getElem?_zipWith] at hj
      cases e1 : (combT n ws vss i)[j]? with
      | none => rw [e1] at hj; cases hj
      | some y =>
        cases e2 : (vss[i]'(by omega))[j]? with
        | none => rw [e1, e2] at hj; cases hj
        | some z =>
          rw [e1, e2] at hj
          have e : y + ws[i] * z = x := Option.some.inj hj
          have ih := combT_lim hl B1 B2 i y (List.mem_of_getElem? e1)
          have hm := mul_pow (B1 ws[i] (List.getElem_mem _)) (B2 _ (List.mem_of_getElem? g2) z (List.mem_of_getElem? e2))
          rw [show (100 + 100 : Nat) = 200 from rfl] at hm
          have h3 := Int.natAbs_add_le y (ws[i] * z)
          rw [e] at h3
          rw [Nat.succ_mul]
          exact Nat.le_trans h3 (Nat.add_le_add ih (Nat.le_of_lt hm))
    · have : combT n ws vss (i + 1) = combT n ws vss i := by
        unfold combT
        have hz : (ws.zip vss).length ≤ i := by rw [List.length_zip]; omega
        rw [List.take_of_length_le (by omega), List.take_of_length_le hz]
      rw [this] at hx
      exact Nat.le_trans (combT_lim hl B1 B2 i x hx) (Nat.mul_le_mul_right _ (Nat.le_succ i))
/-- multiples of points with one first entry -/
def scl (L : Int) (v : List Int) : List Int := v.map fun x => x * (L / v.headD 1)
theorem stepC_scl (t v : List Int) (m : Int) : stepC t (1, v.map fun x => x * m) = stepC t (m, v) := by
  unfold stepC
  induction t generalizing v with
  | nil => rfl
  | cons a t ih =>
    cases v with
    | nil => rfl
    | cons b v =>
      show (a + 1 * (b * m)) :: List.zipWith _ t (v.map fun x => x * m) = (a + m * b) :: List.zipWith _ t v
      rw [ih v, Int.one_mul, Int.mul_comm]
theorem comb_scl (n : Nat) (L : Int) (vss : List (List Int)) : comb n (List.replicate vss.length 1) (vss.map (scl L)) = comb n (vss.map fun v => L / v.headD 1) vss := by
  unfold comb
  generalize List.replicate n (0 : Int) = t
  induction vss generalizing t with
  | nil => rfl
  | cons v vss ih =>
    rw [List.length_cons, List.replicate_succ, List.map_cons, List.map_cons, List.zip_cons_cons, List.zip_cons_cons, List.foldl_cons, List.foldl_cons, ih]
    congr 1
    exact stepC_scl t v _
theorem app_getC {α : Type} {xs : List α} {x y : α} {j : Nat} (h : (xs ++ [x])[j]? = some y) : xs[j]? = some y ∨ (j = xs.length ∧ y = x) := by
  rw [List.getElem?_append] at h
  split at h
  · exact .inl h
  · have := lt_of_get h
    rw [List.length_singleton] at this
    have hj : j = xs.length := by omega
    subst hj
    rw [Nat.sub_self] at h
    cases h
    exact .inr ⟨rfl, rfl⟩
/-- a vector more at the end -/
theorem VL.pushC {H : Hp} {a r : Addr} {vs : List (List Int)} {v : List Int} {acc : List V} (h : VL H a vs) (hr : Vc H r v) (e : H a = some (.lst acc)) : VL (upd H a (.lst (acc ++ [.ref r]))) a (vs ++ [v]) := by
  obtain ⟨rs, e', l, g⟩ := h
  rw [e'] at e
  have e := HO.lst.inj (Option.some.inj e)
  subst e
  have tups : ∀ t (u : List Int), Vc H t u → Vc (upd H a (.lst (rs.map V.ref ++ [.ref r]))) t u := fun t u ht => by
    unfold Vc at ht ⊢
    rw [upd_ne (ne_of ht e' (fun z => nomatch z))]
    exact ht
  refine ⟨rs ++ [r], by rw [upd_same, List.map_append]; rfl, by rw [List.length_append, List.length_append, l]; rfl, fun i t ht => ?_⟩
  rcases app_getC ht with h1 | ⟨h1, rfl⟩
  · obtain ⟨u, h2, h3⟩ := g i t h1
    exact ⟨u, by rw [List.getElem?_append_left (lt_of_get h2)]; exact h2, tups _ _ h3⟩
  · refine ⟨v, ?_, tups _ _ hr⟩
    rw [h1, l, List.getElem?_append_right (Nat.le_refl _), Nat.sub_self]
    rfl
theorem vl0C {H : Hp} {a : Addr} : VL (upd H a (.lst [])) a [] := ⟨[], upd_same, rfl, fun i r h => by rw [List.getElem?_nil] at h; cases h⟩
def PvC (H : Hp) (D : Addr) (vs : List (List Int)) (H' : Hp) : Prop := Same H H' ∧ VL H' D vs
theorem pvc0 {H : Hp} {D : Addr} (nD : H D = none) : PvC H D [] (upd H D (.lst [])) := ⟨same_upd nD, vl0C⟩
theorem pvc_step {H H' H'' : Hp} {D r : Addr} {vs : List (List Int)} {v : List Int} (nD : H D = none) (hP : PvC H D vs H') (s : Same H' H'') (hr : Vc H'' r v) (hl : vs.length < 1000) :
    ∃ acc, H'' D = some (.lst acc) ∧ acc.length < sizeLine ∧ PvC H D (vs ++ [v]) (upd H'' D (.lst (acc ++ [.ref r]))) := by
  have V2 := hP.2.same s
  obtain ⟨rs, e, l, g⟩ := id V2
  refine ⟨_, e, by rw [List.length_map, l]; exact small1000 (by omega), fun y o hy => ?_, V2.pushC hr e⟩
  rw [upd_ne (ne_of_none hy nD)]
  exact s _ _ (hP.1 _ _ hy)
def rTupOf (K : PySem.W.Frag) : List V → Hp → VK → Prop := fun xs H Q => ∃ p ys, xs = [V.ref p] ∧ ((SqL K H p ys ∧ ∀ l, H l = none → Q (V.ref l) (upd H l (HO.tup ys))) ∨ (SqT K H p ys ∧ Q (V.ref p) H))
abbrev s_with_common_first : Stmt := topS 18
theorem sc_with_common_first : FnScope ["points", "common", "point", "entry"] ["points"] (defScope s_with_common_first) := ⟨rfl, rfl, rfl, by decide +kernel, rfl, by decide +kernel, by decide +kernel⟩
def spWcf : Sp := fun vs H Q _ => ∃ (a : Addr) (vss : List (List Int)) (n : Nat), vs = [.ref a] ∧ VL H a vss ∧ 1 ≤ vss.length ∧ vss.length ≤ 10 ∧ (∀ v ∈ vss, v.length = n) ∧ 1 ≤ n ∧ n ≤ 100 ∧ (∀ v ∈ vss, 0 < v.headD 1) ∧ (∀ v ∈ vss, ∀ x ∈ v, x.natAbs < 2 ^ 5) ∧
  ∀ (H' : Hp) (r : Addr), Same H H' → VL H' r (vss.map (scl (lcmW vss))) → (lcmW vss).natAbs < 2 ^ 60 → Q (.ref r) H'
theorem ok_wcf {f : Addr} {fd : FuncData} {k : Nat} (F : Fun K "with_common_first" "with_common_first" s_with_common_first f fd) (Z : Glb mg) : FnOk P w K mg base CX0 (k + 1) f fd ["points"] spWcf := by
  refine F.ok sc_with_common_first (fun vs H Q E h => ?_) (fun cdv A outer s H vs Q E hr h => ?_)
  · obtain ⟨a, vss, n, rfl, _⟩ := h
    rfl
  · obtain ⟨a, vss, n, rfl, hv, l1, l10, hn, n1, n2, hw, hB, q⟩ := h
    refine ⟨_, (pss_cons (ps_set (i := 1) sc_with_common_first.nd rfl (.inr rfl) pe_int)
      (pss_cons (ps_for PassesOwn.never rfl (pi_list (pv 0)) (pg_name (i := 2) sc_with_common_first.nd rfl (.inl rfl)) (pss_one (ps_set (i := 1) sc_with_common_first.nd rfl (.inr rfl) (pe_callBfun cr_lcm (by rfl) Z.m_lcm (pa_cons (pv 1) (pa_cons (pe_ix (r := rIxT K) ix_tup (pv 2) pe_int (fun _ _ => rfl)) pa_nil))))))
      (pss_one (ps_ret (pe_lc (own := [("point", 2)]) (g := gName 2) (tt := tYes) (by rfl) sc_with_common_first.nd (pi_list (pv 0)) (blkOk_by (own := [("point", 2)]) (N := ["points", "common", "point", "entry"]) (sc := defScope s_with_common_first) (by first | decide +kernel | kernel_rfl)) (fun _ _ _ _ _ => (pg_name (i := 2) sc_with_common_first.nd rfl (.inr rfl))) (fun _ _ _ _ _ => pts_nil) (fun _ _ _ _ _ => (pe_callTy (T := "tuple") (r := rTupOf K) call_tuple_of (by rfl) Z.m_tuple (by decide +kernel) (pa_cons (pe_lc (own := [("entry", 3)]) (wi := iTup K (tVar 2)) (g := gName 3) (tt := tYes) (by rfl) sc_with_common_first.nd (pi_tup (pv 2)) (blkOk_by (own := [("entry", 3)]) (N := ["points", "common", "point", "entry"]) (by first | decide +kernel | kernel_rfl)) (fun _ _ _ _ _ => (pg_name (i := 3) sc_with_common_first.nd rfl (.inl rfl))) (fun _ _ _ _ _ => pts_nil) (fun _ _ _ _ _ => (pe_op op_mulW (pv 3) (pe_op op_fdivW (pv 1) (pe_ix (r := rIxT K) ix_tup (pv 2) pe_int (fun _ _ => rfl)))))) pa_nil)))))))), ?_⟩
    have hv' := hv
    obtain ⟨rs, ea, el, eg⟩ := hv
    have head : ∀ v ∈ vss, v[0]? = some (v.headD 1) := fun v hvm => by
      have := hn v hvm
      cases v with
      | nil => simp at this; omega
      | cons x r => rfl
    have hdB : ∀ v ∈ vss, (v.headD 1).natAbs < 2 ^ 5 := fun v hvm => hB v hvm _ (List.mem_of_getElem? (head v hvm))
    have wB : ∀ f ∈ wsOf vss, f.2.natAbs < 2 ^ 5 := fun f hf => by
      obtain ⟨v, hvm, rfl⟩ := List.mem_map.mp hf
      exact hdB v hvm
    have wl : (wsOf vss).length = vss.length := by unfold wsOf; rw [List.length_map]
    have wp : ∀ f ∈ wsOf vss, 0 < f.2 := fun f hf => by
      obtain ⟨v, hvm, rfl⟩ := List.mem_map.mp hf
      exact hw v hvm
    refine ⟨_, rfl, a, rfl, ⟨_, SqL.of ea⟩, ?_⟩
    refine for_list (xs := rs.map V.ref) (fun i σ H' => H = H' ∧ ∃ y2 : Option V, σ = [some (.ref a), some (.int (lcmD ((wsOf vss).take i))), y2, none]) ⟨rfl, _, rfl⟩ (fun i σ H' _ hP => by obtain ⟨rfl, _⟩ := hP; exact SqL.of ea) (fun i x σ H' hx hP => ?_) (fun σ H' hP => ?_)
    · obtain ⟨rfl, y2, rfl⟩ := hP
      obtain ⟨r, hri, rfl⟩ := ref_get hx
      obtain ⟨v, hvi, V1⟩ := eg i r hri
      have hvm := List.mem_of_getElem? hvi
      have lim := lcm_lim2 wB i
      have hi := lt_of_get hvi
      refine ⟨_, rfl, _, rfl, _, _, _, _, rfl, rfl, SqT.of V1, atI_nat (get_map (head v hvm)), _, _, rfl, up_pow lim (by omega), up_pow (hdB v hvm) (by decide), rfl, some (.ref r), ?_⟩
      rw [lcm_take (wsOf_get hvi)]
      rfl
    · obtain ⟨rfl, y2, rfl⟩ := hP
      rw [List.length_map, el, show vss.length = (wsOf vss).length from wl.symm, List.take_length]
      have lim : (lcmW vss).natAbs < 2 ^ 60 := up_pow (lcm_lim3 wB) (by omega)
      refine ⟨_, rfl, ?_⟩
      obtain ⟨C0, _, Cd, _⟩ := lcmD_facts (wsOf vss) 1 (by decide) wp
      refine ⟨a, rfl, ⟨_, SqL.of ea⟩, fun D nD => ?_⟩
      refine lc_list (xs := rs.map V.ref) (fun i H' => PvC H D ((vss.map (scl (lcmW vss))).take i) H') (pvc0 nD) (fun i H' _ hP => SqL.of (hP.1 _ _ ea)) (fun i x H' hx hP => ?_) (fun H' hP => ?_)
      · obtain ⟨r, hri, rfl⟩ := ref_get hx
        obtain ⟨v, hvi, V1⟩ := eg i r hri
        have hvm := List.mem_of_getElem? hvi
        have lv := hn v hvm
        refine ⟨rfl, ?_⟩
        unfold tYes
        refine iteT ?_
        have V2 : H' r = some (.tup (v.map V.int)) := hP.1 _ _ V1
        refine ⟨_, rfl, r, rfl, ⟨_, SqT.of V2⟩, fun D2 nD2 => ?_⟩
        refine lc_tup (xs := v.map V.int) (g := gName 3) (tt := fun _ H Q => Q true H) (te := tOp (rI CMulW fun i j => V.int (i * j)) (tVar 3) (tOp (rI CDivW fun i j => V.int (i / j)) (tVar 1) (tOp (rIxT K) (tVar 2) (tC (V.int 0))))) (vs := [3]) (fun j H2 => Same H' H2 ∧ H2 D2 = some (.lst (((scl (lcmW vss) v).take j).map V.int))) ⟨same_upd nD2, upd_same⟩ (fun j H2 _ hP2 => SqT.of (hP2.1 _ _ V2)) (fun j x H2 hx hP2 => ?_) (fun H2 hP2 => ?_)
        · obtain ⟨n0, hn0, rfl⟩ := map_get hx
          refine ⟨rfl, iteT ?_⟩
          have hg : (scl (lcmW vss) v)[j]? = some (n0 * (lcmW vss / v.headD 1)) := by
            unfold scl
            rw [List.getElem?_map, hn0]
            rfl
          have b1 : n0.natAbs < 2 ^ 100 := up_pow (hB v hvm n0 (List.mem_of_getElem? hn0)) (by decide)
          have b2 : (lcmW vss / v.headD 1).natAbs < 2 ^ 100 := up_pow (Nat.lt_of_le_of_lt (ediv_abs (hw v hvm)) lim) (by decide)
          refine ⟨_, rfl, _, rfl, _, rfl, _, _, _, _, rfl, rfl, SqT.of (hP2.1 _ _ V2), atI_nat (get_map (head v hvm)), _, _, rfl, rfl, wide_div (hw v hvm) (hdB v hvm) (by decide) (by decide), _, _, rfl, rfl, cmul b1 b2, _, hP2.2, ?_, ?_, ?_⟩
          · rw [List.length_map, List.length_take]
            exact Nat.lt_of_le_of_lt (Nat.min_le_right _ _) (small1000 (by unfold scl; rw [List.length_map]; omega))
          · intro y o hy
            rw [upd_ne (ne_of_none hy nD2)]
            exact hP2.1 _ _ hy
          · rw [upd_same, take_get hg, List.map_append]
            rfl
        · rw [List.length_map, show v.length = (scl (lcmW vss) v).length by unfold scl; rw [List.length_map], List.take_length] at hP2
          refine ⟨D2, _, rfl, .inl ⟨SqL.of hP2.2, fun T nT => ?_⟩⟩
          rw [take_get (x := scl (lcmW vss) v) (by rw [List.getElem?_map, hvi]; rfl)]
          exact pvc_step nD hP (hP2.1.trans (same_upd nT)) upd_same (by rw [List.length_take, List.length_map]; omega)
      · rw [List.length_map, el, show vss.length = (vss.map (scl (lcmW vss))).length by rw [List.length_map], List.take_length] at hP
        exact q _ _ hP.1 hP.2 lim
abbrev s_middle : Stmt := topS 17
theorem sc_middle : FnScope ["points"] ["points"] (defScope s_middle) := ⟨rfl, rfl, rfl, by decide +kernel, rfl, by decide +kernel, by decide +kernel⟩
def spMid : Sp := fun vs H Q _ => ∃ (a : Addr) (vss : List (List Int)) (n : Nat), vs = [.ref a] ∧ VL H a vss ∧ 1 ≤ vss.length ∧ vss.length ≤ 10 ∧ (∀ v ∈ vss, v.length = n) ∧ 1 ≤ n ∧ n ≤ 100 ∧ (∀ v ∈ vss, 0 < v.headD 1) ∧ (∀ v ∈ vss, ∀ x ∈ v, x.natAbs < 2 ^ 5) ∧
  ∀ (H' : Hp) (r : Addr), Same H H' → Vc H' r (prim (comb n (midW vss) vss)) → Q (.ref r) H'
theorem rep_one : ∀ n : Nat, (List.replicate n [V.int 1]).flatten = (List.replicate n (1 : Int)).map V.int
  | 0 => rfl
  | n + 1 => by
    rw [List.replicate_succ, List.replicate_succ, List.flatten_cons, rep_one n]
    rfl
theorem ok_mid {f : Addr} {fd : FuncData} {k : Nat} (F : Fun K "middle" "middle" s_middle f fd) (Z : Glb mg)
    (Ccombined : Call P w K mg base k "combined" ["weights", "vectors"] spComb) (Cprimitive : Call P w K mg base k "primitive" ["v"] spPrim) (Cwith_common_first : Call P w K mg base k "with_common_first" ["points"] spWcf) : FnOk P w K mg base CX0 (k + 1) f fd ["points"] spMid := by
  refine F.ok sc_middle (fun vs H Q E h => ?_) (fun cdv A outer s H vs Q E hr h => ?_)
  · obtain ⟨a, vss, n, rfl, _⟩ := h
    rfl
  · obtain ⟨a, vss, n, rfl, hv, l1, l10, hn, n1, n2, hw, hB, q⟩ := h
    refine ⟨_, (pss_one (ps_ret (pe_call Cprimitive.G hr (by rfl) Cprimitive.m Cprimitive.kp Cprimitive.b .nil pass0 (pa_cons (pe_call Ccombined.G hr (by rfl) Ccombined.m Ccombined.kp Ccombined.b .nil pass0 (pa_cons (pe_op op_rep (pe_lst (pa_cons pe_int pa_nil)) (pe_callB call_len_seq (by rfl) Z.m_len PySem.boot_len (pa_cons (pv 0) pa_nil))) (pa_cons (pe_call Cwith_common_first.G hr (by rfl) Cwith_common_first.m Cwith_common_first.kp Cwith_common_first.b .nil pass0 (pa_cons (pv 0) pa_nil)) pa_nil))) pa_nil)))), ?_⟩
    obtain ⟨rs, ea, el, eg⟩ := id hv
    refine ⟨(show 1 ≤ sizeLine by decide), fun z nz => ?_⟩
    have sz := same_upd (o := .lst [V.int 1]) nz
    have ez : (upd H z (.lst [V.int 1])) z = some (.lst [V.int 1]) := upd_same
    generalize upd H z (.lst [V.int 1]) = H1 at *
    refine ⟨_, rfl, _, _, rfl, .inl (SqL.of (sz _ _ ea)), z, _, _, rfl, rfl, ez, by omega, by rw [List.length_map]; omega, ?_, fun t nt => ?_⟩
    · rw [List.length_map]
      exact Nat.le_of_lt (small1000 (by show 1 * rs.length ≤ 1000; omega))
    have st := same_upd (o := .lst (List.replicate (((rs.map V.ref).length : Nat) : Int).toNat [V.int 1]).flatten) nt
    have et : (upd H1 t (.lst (List.replicate (((rs.map V.ref).length : Nat) : Int).toNat [V.int 1]).flatten)) t = some (.lst ((List.replicate vss.length (1 : Int)).map V.int)) := by
      rw [upd_same, Int.toNat_natCast, rep_one, List.length_map, el]
    generalize upd H1 t (.lst (List.replicate (((rs.map V.ref).length : Nat) : Int).toNat [V.int 1]).flatten) = H2 at *
    refine ⟨_, rfl, a, vss, n, rfl, hv.same (sz.trans st), l1, l10, hn, n1, n2, hw, hB, fun H3 r3 s3 v3 lim => ?_⟩
    have sB : ∀ v ∈ vss.map (scl (lcmW vss)), v.length = n ∧ ∀ x ∈ v, x.natAbs < 2 ^ 100 := fun v hv => by
      obtain ⟨u, hu, rfl⟩ := List.mem_map.mp hv
      refine ⟨by unfold scl; rw [List.length_map, hn u hu], fun x hx => ?_⟩
      unfold scl at hx
      obtain ⟨y, hy, rfl⟩ := List.mem_map.mp hx
      exact up_pow (mul_pow (hB u hu y hy) (Nat.lt_of_le_of_lt (ediv_abs (hw u hu)) lim)) (by decide)
    have ml : (List.replicate vss.length (1 : Int)).length = (vss.map (scl (lcmW vss))).length := by rw [List.length_replicate, List.length_map]
    have bw : ∀ x ∈ List.replicate vss.length (1 : Int), x.natAbs < 2 ^ 100 := fun x hx => by
      rw [(List.mem_replicate.mp hx).2]
      decide
    refine ⟨false, t, r3, List.replicate vss.length 1, vss.map (scl (lcmW vss)), n, rfl, s3 _ _ et, v3, ml, by rw [List.length_map]; omega, by rw [List.length_map]; omega, fun v hv => (sB v hv).1, n2, bw, fun v hv => (sB v hv).2, fun H4 r4 s4 v4 => ?_⟩
    have key := comb_scl n (lcmW vss) vss
    have bv : ∀ v ∈ vss.map (scl (lcmW vss)), ∀ x ∈ v, x.natAbs < 2 ^ 100 := fun v hv => (sB v hv).2
    refine ⟨r4, comb n (List.replicate vss.length 1) (vss.map (scl (lcmW vss))), rfl, v4, ?_, fun x hx => ?_, fun H5 r5 s5 v5 => ?_⟩
    · rw [← combT_all ml, combT_len ml fun v hv => (sB v hv).1]
      omega
    · rw [← combT_all ml] at hx
      have h1 := combT_lim ml bw bv _ x hx
      rw [List.length_replicate] at h1
      have h2 : vss.length * 2 ^ 200 ≤ 10 * 2 ^ 200 := Nat.mul_le_mul_right _ (by omega)
      exact Nat.lt_of_le_of_lt (Nat.le_trans h1 h2) (by decide)
    · rw [key] at v5
      exact q _ _ ((((sz.trans st).trans s3).trans s4).trans s5) v5

/-! ### the middle of points and the average of their coordinates -/
/-- a sum over points of one entry -/
def colS (ws : List Int) (vss : List (List Int)) (j : Nat) : Nat → Int
  | 0 => 0
  | i + 1 => colS ws vss j i + (ws.getD i 0) * ((vss.getD i []).getD j 0)
theorem combT_get {n : Nat} {ws : List Int} {vss : List (List Int)} (hl : ws.length = vss.length) (hn : ∀ v ∈ vss, v.length = n) {j : Nat} (hj : j < n) : ∀ i, i ≤ ws.length → (combT n ws vss i)[j]? = some (colS ws vss j i)
  | 0, _ => by
    show (List.replicate n (0 : Int))[j]? = some 0
    rw [List.getElem?_replicate, if_pos hj]
  | i + 1, hi => by
    have g1 : ws[i]? = some (ws[i]'(by omega)) := List.getElem?_eq_getElem (by omega)
    have g2 : vss[i]? = some (vss[i]'(by omega)) := List.getElem?_eq_getElem (by omega)
    have ln : (vss[i]'(by omega)).length = n := hn _ (List.getElem_mem _)
    have g3 : (vss[i]'(by omega))[j]? = some ((vss[i]'(by omega))[j]'(by omega)) := List.getElem?_eq_getElem (by omega)
    rw [combT_step g1 g2]
    unfold stepC
    rw [List.getElem?_zipWith, combT_get hl hn hj i (by omega), g3]
    show some _ = some (colS ws vss j i + ws.getD i 0 * (vss.getD i []).getD j 0)
    rw [List.getD_eq_getElem?_getD, g1, List.getD_eq_getElem?_getD, List.getD_eq_getElem?_getD, g2]
    simp only [Option.getD_some]
    rw [g3]
    rfl
/-- the first entries add up to the common divisor as often as there are points -/
theorem col0 {vss : List (List Int)} (hw : ∀ v ∈ vss, 0 < v.headD 1 ∧ v[0]? = some (v.headD 1)) : ∀ i, i ≤ vss.length → colS (midW vss) vss 0 i = (i : Int) * lcmW vss
  | 0, _ => by
    show (0 : Int) = 0 * _
    rw [Int.zero_mul]
  | i + 1, hi => by
    have g2 : vss[i]? = some (vss[i]'(by omega)) := List.getElem?_eq_getElem (by omega)
    have hm := List.mem_of_getElem? g2
    obtain ⟨h1, h2⟩ := hw _ hm
    obtain ⟨_, _, Cd, _⟩ := lcmD_facts (wsOf vss) 1 (by decide) (fun f hf => by obtain ⟨v, hv, rfl⟩ := List.mem_map.mp hf; exact (hw v hv).1)
    have hd : (vss[i]'(by omega)).headD 1 ∣ lcmW vss := Cd (0, (vss[i]'(by omega)).headD 1) (List.mem_map.mpr ⟨_, hm, rfl⟩)
    show colS (midW vss) vss 0 i + (midW vss).getD i 0 * (vss.getD i []).getD 0 0 = ((i + 1 : Nat) : Int) * lcmW vss
    rw [col0 hw i (by omega), List.getD_eq_getElem?_getD, List.getD_eq_getElem?_getD, List.getD_eq_getElem?_getD, g2]
    have g1 : (midW vss)[i]? = some (lcmW vss / (vss[i]'(by omega)).headD 1) := by
      unfold midW
      rw [List.getElem?_map, g2]
      rfl
    rw [g1]
    simp only [Option.getD_some]
    rw [h2]
    simp only [Option.getD_some]
    rw [Int.mul_comm (lcmW vss / _), div_mul hd]
    have : ((i + 1 : Nat) : Int) = (i : Int) + 1 := rfl
    rw [this, Int.add_mul, Int.one_mul]
/-- one more point: the sum as a fraction -/
theorem sum_step {N D n d C S w x c N2 D2 : Int} (hD : 0 < D) (hd : 0 < d) (h1 : N * C = D * S) (h2 : n * w = d * x) (h3 : w * c = C) (h4 : N2 * (D * d) = D2 * (N * d + n * D)) : N2 * C = D2 * (S + c * x) := by
  have e : (N2 * C) * (D * d) = (D2 * (S + c * x)) * (D * d) := by
    have a1 : (N2 * C) * (D * d) = (N2 * (D * d)) * C := by
      simp only [Int.mul_assoc, Int.mul_left_comm, Int.mul_comm]
    have a2 : (N * d + n * D) * C = (N * C) * d + (n * w) * c * D := by
      rw [Int.add_mul, ← h3]
      simp only [Int.mul_assoc, Int.mul_left_comm, Int.mul_comm]
    have a3 : D2 * ((N * C) * d + (n * w) * c * D) = (D2 * (S + c * x)) * (D * d) := by
      rw [h1, h2, Int.mul_add D2 S, Int.add_mul (D2 * S), Int.mul_add D2]
      simp only [Int.mul_assoc, Int.mul_left_comm, Int.mul_comm]
    rw [a1, h4, Int.mul_assoc, a2, a3]
  have pos := Int.mul_pos hD hd
  exact Int.eq_of_mul_eq_mul_right (by omega) e
/-- the average as a fraction -/
theorem avg_step {N D C S m a b : Int} (hD : 0 < D) (h1 : N * C = D * S) (h2 : a * (D * m) = b * (N * 1)) : a * (m * C) = b * S := by
  have e : (a * (m * C)) * D = (b * S) * D := by
    have a1 : (a * (m * C)) * D = (a * (D * m)) * C := by
      simp only [Int.mul_assoc, Int.mul_left_comm, Int.mul_comm]
    have a2 : (b * (N * 1)) * C = b * (N * C) := by
      rw [Int.mul_one, Int.mul_assoc]
    rw [a1, h2, a2, h1]
    simp only [Int.mul_assoc, Int.mul_left_comm, Int.mul_comm]
  exact Int.eq_of_mul_eq_mul_right (by omega) e
/-- the middle is made of the averages -/
theorem mid_same {vss : List (List Int)} {n : Nat} {fs : List (Int × Int)} (h1 : 1 ≤ vss.length) (hn : ∀ v ∈ vss, v.length = n) (hw : ∀ v ∈ vss, 0 < v.headD 1 ∧ v[0]? = some (v.headD 1)) (hf : fs.length + 1 = n) (hlow : ∀ f ∈ fs, Low f)
    (hs : ∀ j f, fs[j]? = some f → f.1 * ((vss.length : Int) * lcmW vss) = f.2 * colS (midW vss) vss (j + 1) vss.length) : prim (comb n (midW vss) vss) = over1 (lcmD fs) fs := by
  have ml : (midW vss).length = vss.length := by unfold midW; rw [List.length_map]
  obtain ⟨C0, _, _, _⟩ := lcmD_facts (wsOf vss) 1 (by decide) (fun f hf => by obtain ⟨v, hv, rfl⟩ := List.mem_map.mp hf; exact (hw v hv).1)
  obtain ⟨L0, _, hd, _⟩ := lcmD_facts fs 1 (by decide) fun f hf => (hlow f hf).1
  have C1 : 0 < lcmW vss := C0
  have m0 : 0 < (vss.length : Int) * lcmW vss := Int.mul_pos (by omega) C1
  rw [← over1_prim hlow]
  refine prim_prop (a := lcmD fs) (b := (vss.length : Int) * lcmW vss) L0 m0 ?_
  have len1 : (comb n (midW vss) vss).length = n := by rw [← combT_all ml]; exact combT_len ml hn _
  apply List.ext_getElem?
  intro i
  rw [List.getElem?_map, List.getElem?_map]
  by_cases hi : i < n
  · rw [← combT_all ml, combT_get ml hn hi _ (Nat.le_refl _), ml]
    cases i with
    | zero =>
      rw [col0 hw _ (Nat.le_refl _)]
      show some (lcmD fs * ((vss.length : Int) * lcmW vss)) = some (((vss.length : Int) * lcmW vss) * lcmD fs)
      rw [Int.mul_comm]
    | succ j =>
      have g : fs[j]? = some (fs[j]'(by omega)) := List.getElem?_eq_getElem (by omega)
      have e := hs j _ g
      have g2 : (over1 (lcmD fs) fs)[j + 1]? = some ((fs[j]'(by omega)).1 * (lcmD fs / (fs[j]'(by omega)).2)) := by
        unfold over1
        rw [List.getElem?_cons_succ, List.getElem?_map, g]
        rfl
      rw [g2]
      simp only [Option.map_some]
      congr 1
      have dm := div_mul (hd _ (List.mem_of_getElem? g))
      have dm' : (fs[j]'(by omega)).2 * (lcmD fs / (fs[j]'(by omega)).2) = lcmD fs := dm
      generalize (fs[j]'(by omega)).1 = a at *
      generalize hb : (fs[j]'(by omega)).2 = b at *
      generalize lcmD fs / b = q at *
      generalize colS (midW vss) vss (j + 1) vss.length = S at *
      generalize (vss.length : Int) * lcmW vss = M at *
      rw [← dm']
      have : b * q * S = q * (b * S) := by simp only [Int.mul_assoc, Int.mul_left_comm, Int.mul_comm]
      rw [this, ← e]
      simp only [Int.mul_assoc, Int.mul_left_comm, Int.mul_comm]
  · have : (over1 (lcmD fs) fs).length = n := by
      unfold over1
      rw [List.length_cons, List.length_map]
      exact hf
    rw [List.getElem?_eq_none (by omega), List.getElem?_eq_none (by omega)]
    rfl

abbrev s_fraction : Stmt := topS 6
theorem sc_fraction : FnScope ["a", "b", "common"] ["a", "b"] (defScope s_fraction) := ⟨rfl, rfl, rfl, by decide +kernel, rfl, by decide +kernel, by decide +kernel⟩
theorem ok_frac {f : Addr} {fd : FuncData} {k : Nat} (F : Fun K "fraction" "fraction" s_fraction f fd) (Z : Glb mg) : FnOk P w K mg base CX0 (k + 1) f fd ["a", "b"] spFr := by
  refine F.ok sc_fraction (fun vs H Q E h => ?_) (fun cdv A outer s H vs Q E hr h => ?_)
  · obtain ⟨a, b, rfl, _⟩ := h
    rfl
  · obtain ⟨a, b, rfl, hp, ha, hb, q⟩ := h
    refine ⟨_, (pss_cons (ps_if (pt_cmpR op_eq (pv 1) pe_int (nomark _)) (pss_one ps_never) pss_nil)
      (pss_cons (ps_set (i := 2) sc_fraction.nd rfl (.inl rfl) (pe_callBfun cr_gcd (by rfl) Z.m_gcd (pa_cons (pv 0) (pa_cons (pv 1) pa_nil))))
      (pss_cons (ps_if (pt_cmpR op_lt (pv 1) pe_int (nomark _)) (pss_one ps_never) pss_nil)
      (pss_one (ps_ret (pe_tup (pa_cons (pe_op op_fdivW (pv 0) (pv 2)) (pa_cons (pe_op op_fdivW (pv 1) (pv 2)) pa_nil)))))))), ?_⟩
    have cd : CDivW b (g2 a b) := wide_div (g2_pos (by omega)) (g2_lim hp hb) (by decide) (by decide)
    refine ⟨_, rfl, rfl, _, rfl, ?_⟩
    rw [decide_eq_false (fun z => by have := V.int.inj z; omega)]
    refine iteF ⟨_, rfl, _, rfl, a, b, rfl, _, rfl, _, _, rfl, rfl, _, rfl, ?_⟩
    rw [decide_eq_false (by omega)]
    exact iteF ⟨_, rfl, _, rfl, _, _, rfl, rfl, cd, _, rfl, _, rfl, _, _, rfl, rfl, cd, ints2 _ _, q⟩

abbrev s__law_add : Stmt := topS 32
theorem sc__law_add : FnScope ["x", "y"] ["x", "y"] (defScope s__law_add) := ⟨rfl, rfl, rfl, by decide +kernel, rfl, by decide +kernel, by decide +kernel⟩
theorem ok_ladd {f : Addr} {fd : FuncData} {k : Nat} (F : Fun K "_law_add" "_law_add" s__law_add f fd) (Z : Glb mg)
    (C_law_frac : Call P w K mg base k "_law_frac" ["a", "b"] spFr) : FnOk P w K mg base CX0 (k + 1) f fd ["x", "y"] (spTwo fun a b c d => (a * d + c * b, b * d)) := by
  refine F.ok sc__law_add (fun vs H Q E h => ?_) (fun cdv A outer s H vs Q E hr h => ?_)
  · obtain ⟨x, y, a, b, c, d, rfl, _⟩ := h
    rfl
  · obtain ⟨x, y, a, b, c, d, rfl, ⟨hx, b0, ha, hb⟩, ⟨hy, d0, hc, hd⟩, q⟩ := h
    refine ⟨_, (pss_one (ps_ret (pe_call C_law_frac.G hr (by rfl) C_law_frac.m C_law_frac.kp C_law_frac.b .nil pass0 (pa_cons (pe_op op_add (pe_op op_mulW (pe_ix (r := rIxT K) ix_tup (pv 0) pe_int (fun _ _ => rfl)) (pe_ix (r := rIxT K) ix_tup (pv 1) pe_int (fun _ _ => rfl))) (pe_op op_mulW (pe_ix (r := rIxT K) ix_tup (pv 1) pe_int (fun _ _ => rfl)) (pe_ix (r := rIxT K) ix_tup (pv 0) pe_int (fun _ _ => rfl)))) (pa_cons (pe_op op_mulW (pe_ix (r := rIxT K) ix_tup (pv 0) pe_int (fun _ _ => rfl)) (pe_ix (r := rIxT K) ix_tup (pv 1) pe_int (fun _ _ => rfl))) pa_nil))))), ?_⟩
    refine ⟨_, rfl, _, _, _, _, rfl, rfl, SqT.of hx, atI_nat (j := 0) rfl, _, rfl, _, _, _, _, rfl, rfl, SqT.of hy, atI_nat (j := 1) rfl, _, _, rfl, rfl, cmul ha hd, _, rfl, _, _, _, _, rfl, rfl, SqT.of hy, atI_nat (j := 0) rfl, _, rfl, _, _, _, _, rfl, rfl, SqT.of hx, atI_nat (j := 1) rfl, _, _, rfl, rfl, cmul hc hb, _, _, rfl, rfl, _, rfl, _, _, _, _, rfl, rfl, SqT.of hx, atI_nat (j := 1) rfl, _, rfl, _, _, _, _, rfl, rfl, SqT.of hy, atI_nat (j := 1) rfl, _, _, rfl, rfl, cmul hb hd, ?_⟩
    exact ⟨_, _, rfl, Int.mul_pos b0 d0, up_pow (add_pow (mul_pow ha hd) (mul_pow hc hb)) (by decide), up_pow (mul_pow hb hd) (by decide), q⟩

abbrev s__law_mul : Stmt := topS 33
theorem sc__law_mul : FnScope ["x", "y"] ["x", "y"] (defScope s__law_mul) := ⟨rfl, rfl, rfl, by decide +kernel, rfl, by decide +kernel, by decide +kernel⟩
theorem ok_lmul {f : Addr} {fd : FuncData} {k : Nat} (F : Fun K "_law_mul" "_law_mul" s__law_mul f fd) (Z : Glb mg)
    (C_law_frac : Call P w K mg base k "_law_frac" ["a", "b"] spFr) : FnOk P w K mg base CX0 (k + 1) f fd ["x", "y"] (spTwo fun a b c d => (a * c, b * d)) := by
  refine F.ok sc__law_mul (fun vs H Q E h => ?_) (fun cdv A outer s H vs Q E hr h => ?_)
  · obtain ⟨x, y, a, b, c, d, rfl, _⟩ := h
    rfl
  · obtain ⟨x, y, a, b, c, d, rfl, ⟨hx, b0, ha, hb⟩, ⟨hy, d0, hc, hd⟩, q⟩ := h
    refine ⟨_, (pss_one (ps_ret (pe_call C_law_frac.G hr (by rfl) C_law_frac.m C_law_frac.kp C_law_frac.b .nil pass0 (pa_cons (pe_op op_mulW (pe_ix (r := rIxT K) ix_tup (pv 0) pe_int (fun _ _ => rfl)) (pe_ix (r := rIxT K) ix_tup (pv 1) pe_int (fun _ _ => rfl))) (pa_cons (pe_op op_mulW (pe_ix (r := rIxT K) ix_tup (pv 0) pe_int (fun _ _ => rfl)) (pe_ix (r := rIxT K) ix_tup (pv 1) pe_int (fun _ _ => rfl))) pa_nil))))), ?_⟩
    refine ⟨_, rfl, _, _, _, _, rfl, rfl, SqT.of hx, atI_nat (j := 0) rfl, _, rfl, _, _, _, _, rfl, rfl, SqT.of hy, atI_nat (j := 0) rfl, _, _, rfl, rfl, cmul ha hc, _, rfl, _, _, _, _, rfl, rfl, SqT.of hx, atI_nat (j := 1) rfl, _, rfl, _, _, _, _, rfl, rfl, SqT.of hy, atI_nat (j := 1) rfl, _, _, rfl, rfl, cmul hb hd, ?_⟩
    exact ⟨_, _, rfl, Int.mul_pos b0 d0, up_pow (mul_pow ha hc) (by decide), up_pow (mul_pow hb hd) (by decide), q⟩

def rLen (K : PySem.W.Frag) : List V → Hp → VK → Prop := fun xs H Q => ∃ p ys, xs = [.ref p] ∧ (SqL K H p ys ∨ SqT K H p ys) ∧ Q (.int ys.length) H
/-! ### a comprehension whose turns draw and make tuples -/
def DrR {α : Type} (R : Hp → α → Addr → Prop) (p : Addr) (H : Hp) (D : Addr) (i : Nat) (H' : Hp) : Prop := (∃ q, Plq H p q ∧ Plq H' p q ∧ q ≠ D) ∧ Keep p H H' ∧
  ∃ (rs : List Addr) (fs : List α), H' D = some (.lst (rs.map V.ref)) ∧ rs.length = i ∧ fs.length = i ∧ ∀ (j : Nat) (r : Addr) (f : α), rs[j]? = some r → fs[j]? = some f → R H' f r ∧ ∃ ys, H' r = some (.tup ys)
theorem drR0 {α : Type} {R : Hp → α → Addr → Prop} {p D : Addr} {H : Hp} (hp : Pl H p) (nD : H D = none) : DrR R p H D 0 (upd H D (.lst [])) := by
  obtain ⟨q, hq⟩ := hp.q
  exact ⟨⟨q, hq, hq.same (same_upd nD), (hq.ne_free nD).2⟩, Same.keep (same_upd nD), [], [], upd_same, rfl, rfl, fun j r f h => no_get h⟩
theorem app_get {α : Type} {xs : List α} {x y : α} {j : Nat} (h : (xs ++ [x])[j]? = some y) : xs[j]? = some y ∨ (j = xs.length ∧ y = x) := by
  rw [List.getElem?_append] at h
  split at h
  · exact .inl h
  · have := lt_of_get h
    rw [List.length_singleton] at this
    have hj : j = xs.length := by omega
    subst hj
    rw [Nat.sub_self] at h
    cases h
    exact .inr ⟨rfl, rfl⟩
theorem drR_step {α : Type} {R : Hp → α → Addr → Prop} (hR : ∀ H1 H2 f r, (∀ ys, H1 r = some (.tup ys) → H2 r = some (.tup ys)) → R H1 f r → R H2 f r) {p D : Addr} {H H' H2 : Hp} {i : Nat} {r : Addr} {f : α} {ys : List V} (nD : H D = none) (hP : Pl H p) (h : DrR R p H D i H')
    (hB : Kp p H' H2) (P2 : Pl H2 p) (hr : H2 r = some (.tup ys)) (rf : R H2 f r) : ∃ acc, H2 D = some (.lst acc) ∧ acc.length = i ∧ DrR R p H D (i + 1) (upd H2 D (.lst (acc ++ [.ref r]))) := by
  obtain ⟨⟨q, hq0, hq, qD⟩, K1, rs, fs, e, l1, l2, g⟩ := h
  have ne : D ≠ p := by
    obtain ⟨q0, h0⟩ := hP.q
    exact (h0.ne_free nD).1.symm
  have e2 : H2 D = some (.lst (rs.map V.ref)) := hB.k _ _ ne e
  have P1 := hq.pl
  have tups : ∀ t zs, H2 t = some (.tup zs) → (upd H2 D (.lst (rs.map V.ref ++ [.ref r]))) t = some (.tup zs) := fun t zs ht => by
    rw [upd_ne (ne_of ht e2 (fun z => nomatch z))]
    exact ht
  refine ⟨rs.map V.ref, e2, by rw [List.length_map]; exact l1, ⟨q, hq0, (hq.kp hB P2).upd ne.symm qD, qD⟩, ?_, rs ++ [r], fs ++ [f], ?_, ?_, ?_, ?_⟩
  · intro x o hx ho
    have hxD : x ≠ D := ne_of_none ho nD
    rw [upd_ne hxD]
    exact hB.k _ _ hx (K1 _ _ hx ho)
  · rw [upd_same, List.map_append]
    rfl
  · rw [List.length_append, l1]
    rfl
  · rw [List.length_append, l2]
    rfl
  · intro j t f' h1 h2
    rcases app_get h1 with h1 | ⟨h1, rfl⟩
    · rcases app_get h2 with h2 | ⟨h2, _⟩
      · obtain ⟨a1, zs, a2⟩ := g j t f' h1 h2
        have a3 := hB.k _ _ (P1.ne a2) a2
        exact ⟨hR _ _ _ _ (fun ys hy => tups t ys (hB.k _ _ (P1.ne hy) hy)) a1, zs, tups t zs a3⟩
      · have := lt_of_get h1
        omega
    · rcases app_get h2 with h2 | ⟨h2, rfl⟩
      · have := lt_of_get h2
        omega
      · exact ⟨hR _ _ _ _ (fun ys hy => tups t ys hy) rf, ys, tups t ys hr⟩
theorem Dr.pt {p D : Addr} {H H' : Hp} {B i : Nat} (h : Dr p H D B i H') : Pl H' p := by
  obtain ⟨⟨q, _, h2, _⟩, _⟩ := h
  exact h2.pl
theorem DrR.pt {α : Type} {R : Hp → α → Addr → Prop} {p D : Addr} {H H' : Hp} {i : Nat} (h : DrR R p H D i H') : Pl H' p := by
  obtain ⟨⟨q, _, h2, _⟩, _⟩ := h
  exact h2.pl
theorem ne_pool {H : Hp} {p D : Addr} (hP : Pl H p) (nD : H D = none) : D ≠ p := by
  obtain ⟨q0, h0⟩ := hP.q
  exact (h0.ne_free nD).1.symm
theorem rep_h {H : Hp} {a : Addr} {d : Nat} {Q : VK} (ha : H a = some (.tup [V.int 0])) (d1 : 1 ≤ d) (d2 : d ≤ 1000) (q : ∀ (H' : Hp) (b : Addr), Same H H' → Vc H' b (List.replicate d 0) → Q (.ref b) H') : rRepA K (.ref a) (.int d) H Q := by
  by_cases h1 : d = 1
  · subst h1
    exact .inr ⟨a, _, rfl, rfl, SqT.of ha, q _ _ (Same.refl _) ha⟩
  · refine .inl ⟨a, _, _, rfl, rfl, SqT.of ha, (fun z => nomatch z), by omega, by omega, (by show 1 ≤ 1000; decide), fun b nb => q _ _ (same_upd nb) ?_⟩
    unfold Vc
    rw [upd_same, rep_zero]
    rfl
theorem made_back {fs : List (Int × Int)} {L : Int} (hlow : ∀ f ∈ fs, Low f) (L0 : 0 < L) (hd : ∀ f ∈ fs, f.2 ∣ L) : (fs.map fun f => f.1 * (L / f.2)).map (fun x => (frN x L, frD x L)) = fs := by
  rw [List.map_map]
  have : ∀ f ∈ fs, ((fun x => (frN x L, frD x L)) ∘ fun f : Int × Int => f.1 * (L / f.2)) f = id f := fun f hf => by
    show (frN (f.1 * (L / f.2)) L, frD (f.1 * (L / f.2)) L) = f
    refine low_eq (low_fr L0) (hlow f hf) ?_
    have h1 := fr_cross (a := f.1 * (L / f.2)) L0
    have dm := div_mul (hd f hf)
    have f0 := (hlow f hf).1
    show frN (f.1 * (L / f.2)) L * f.2 = frD (f.1 * (L / f.2)) L * f.1
    generalize frN (f.1 * (L / f.2)) L = N at *
    generalize frD (f.1 * (L / f.2)) L = D at *
    generalize hq : L / f.2 = q at *
    have q0 : q ≠ 0 := fun z => by rw [z, Int.mul_zero] at dm; omega
    have : (N * f.2) * q = (D * f.1) * q := by
      rw [Int.mul_assoc, dm, h1]
      simp only [Int.mul_assoc, Int.mul_left_comm, Int.mul_comm]
    exact Int.eq_of_mul_eq_mul_right q0 this
  rw [List.map_congr_left this, List.map_id]
/-! ### == of tuples of ints -/
theorem eqv_ints : ∀ ns ms : List Int, PyData.eqvAll (ns.map PyData.int) (ms.map PyData.int) = decide (ns = ms)
  | [], [] => by rw [List.map_nil, PyData.eqvAll]; rfl
  | [], m :: ms => by rw [List.map_nil, List.map_cons, PyData.eqvAll]; rfl
  | n :: ns, [] => by rw [List.map_nil, List.map_cons, PyData.eqvAll]; rfl
  | n :: ns, m :: ms => by
    rw [List.map_cons, List.map_cons, PyData.eqvAll, PyData.eqv, eqv_ints ns ms]
    by_cases h : n = m
    · subst h
      by_cases h2 : ns = ms <;> simp [h2]
    · simp [h]
theorem lay_ints : ∀ ns : List Int, PyData.canLayAll0 (ns.map PyData.int) = true
  | [] => by rw [List.map_nil, PyData.canLayAll0]
  | n :: ns => by
    rw [List.map_cons, PyData.canLayAll0, lay_ints ns]
    rfl
theorem depth_ints : ∀ ns : List Int, PyData.depthAll (ns.map PyData.int) ≤ 1
  | [] => by rw [List.map_nil, PyData.depthAll]; omega
  | n :: ns => by
    have := depth_ints ns
    rw [List.map_cons, PyData.depthAll, PyData.depth]
    omega
theorem shaped_ints (ns : List Int) (h : ns.length ≤ 1000) : SeqAt.shaped (.tuple (ns.map PyData.int)) = true := by
  unfold SeqAt.shaped
  rw [Bool.and_eq_true]
  refine ⟨?_, ?_⟩
  · rw [PyData.canLay0, lay_ints]
  · rw [decide_eq_true_iff, PyData.depth]
    have := depth_ints ns
    omega
theorem dp_ints {H : Hp} : ∀ ns : List Int, DpAll K H (ns.map V.int) (ns.map PyData.int)
  | [] => .nil
  | n :: ns => .cons (.int n) (dp_ints ns)
/-- two pairs of the same ints -/
theorem pair_alike {H : Hp} {x y : Addr} {a b c d : Int} (n : Nat) (hx : H x = some (.tup [.int a, .int b])) (hy : H y = some (.tup [.int c, .int d])) (e1 : a = c) (e2 : b = d) : Alike H (n + 1) (.ref x) (.ref y) := by
  subst e1 e2
  refine .tup hx hy rfl (by show 2 ≤ 1000000; decide) fun i u v h1 h2 => ?_
  have e := Option.some.inj (h1.symm.trans h2)
  subst e
  match i with
  | 0 => cases h1; exact .int n _
  | 1 => cases h1; exact .int n _
  | i + 2 => cases h1
/-- the sums that the law reckons -/
def dueL (ws : List Int) (vss : List (List Int)) (n : Nat) : List Int := (List.range n).map fun j => colS ws vss j vss.length
def rowL (ws : List Int) (vss : List (List Int)) (j : Nat) : List Int := (List.range vss.length).map fun k => ws.getD k 0 * (vss.getD k []).getD j 0
theorem rowL_sum (ws : List Int) (vss : List (List Int)) (j : Nat) : (rowL ws vss j).sum = colS ws vss j vss.length := by
  unfold rowL
  generalize vss.length = m
  induction m with
  | zero => rfl
  | succ m ih =>
    rw [List.range_succ, List.map_append, List.sum_append, ih]
    show _ + (_ + 0) = colS ws vss j m + _
    rw [Int.add_zero]
theorem due_comb {ws : List Int} {vss : List (List Int)} {n : Nat} (hl : ws.length = vss.length) (hn : ∀ v ∈ vss, v.length = n) : comb n ws vss = dueL ws vss n := by
  have len1 : (comb n ws vss).length = n := by rw [← combT_all hl]; exact combT_len hl hn _
  apply List.ext_getElem?
  intro i
  by_cases hi : i < n
  · rw [← combT_all hl, combT_get hl hn hi _ (Nat.le_refl _), hl]
    unfold dueL
    rw [List.getElem?_map, List.getElem?_range hi]
    rfl
  · rw [List.getElem?_eq_none (by omega), List.getElem?_eq_none (by unfold dueL; rw [List.length_map, List.length_range]; omega)]
theorem any_rep (xs : List Int) : (xs.any fun n => n != 0) = false ↔ xs = List.replicate xs.length 0 := by
  induction xs with
  | nil => simp
  | cons x r ih =>
    rw [List.any_cons, Bool.or_eq_false_iff, ih, List.length_cons, List.replicate_succ]
    constructor
    · rintro ⟨h1, h2⟩
      have : x = 0 := by simpa using h1
      rw [this, ← h2]
    · intro h
      injection h with h1 h2
      exact ⟨by rw [h1]; rfl, h2⟩
abbrev s_law : Stmt := topS 35
theorem sc_law : FnScope ["script", "pool", "d", "row", "points", "total", "point", "place", "weights", "due", "scale", "told", "e", "k", "j", "x", "a"] ["script"] (defScope s_law) := ⟨rfl, rfl, rfl, by decide +kernel, rfl, by decide +kernel, by decide +kernel⟩
def spLaw (K : PySem.W.Frag) : Sp := fun vs H Q _ => ∃ (a : Addr) (ns : List Int), vs = [.ref a] ∧ SqL K H a (ns.map V.int) ∧ ∀ H', Q (.bl true) H'
def FrOk (H : Hp) (f : Int × Int) (r : Addr) : Prop := Fr H r f.1 f.2 100 ∧ f.1.natAbs < 2 ^ 85 ∧ f.2.natAbs < 2 ^ 45 ∧ Low f
def VcOk (n : Nat) (H : Hp) (v : List Int) (r : Addr) : Prop := Vc H r v ∧ v.length = n ∧ (∀ x ∈ v, x.natAbs ≤ 3) ∧ 0 < v.headD 1
theorem FL.up {H : Hp} {a : Addr} {fs : List (Int × Int)} {B C : Nat} (h : FL H a fs B) (l : B ≤ C) : FL H a fs C := by
  obtain ⟨rs, e, l', g⟩ := h
  exact ⟨rs, e, l', fun i r hr => by obtain ⟨f, h1, h2⟩ := g i r hr; exact ⟨f, h1, h2.up l⟩⟩
theorem ok_law {f : Addr} {fd : FuncData} {k : Nat} {D_BadInequality D_BadNumber : Addr} (F : Fun K "law" "law" s_law f fd) (Z : Glb mg)
    (E_BadInequality : Er K mg "BadInequality" D_BadInequality) (X_BadInequality : ExcC K D_BadInequality) (E_BadNumber : mg "BadNumber" = some (.ref D_BadNumber))
    (I1 : PySem.W.kitOne K (.ref D_BadInequality) (.ref D_BadNumber) = some false)
    (C_law_pool : Call P w K mg base k "_law_pool" ["script"] (spPool K))
    (C_law_draw : Call P w K mg base k "_law_draw" ["pool", "many"] spDraw)
    (C_law_same : Call P w K mg base k "_law_same" ["actual", "due"] (spSame 2))
    (C_law_some_frac : Call P w K mg base k "_law_some_frac" ["pool"] spSome)
    (C_law_frac : Call P w K mg base k "_law_frac" ["a", "b"] spFr)
    (C_law_prim : Call P w K mg base k "_law_prim" ["v"] spPrimK)
    (C_law_dot : Call P w K mg base k "_law_dot" ["v", "w"] spDot)
    (C_law_point : Call P w K mg base k "_law_point" ["pool", "d", "most"] spPoint)
    (C_law_coordinates : Call P w K mg base k "_law_coordinates" ["point"] spCoord)
    (C_law_of_coordinates : Call P w K mg base k "_law_of_coordinates" ["row"] spOfC)
    (C_law_add : Call P w K mg base k "_law_add" ["x", "y"] (spTwo fun a b c d => (a * d + c * b, b * d)))
    (C_law_mul : Call P w K mg base k "_law_mul" ["x", "y"] (spTwo fun a b c d => (a * c, b * d)))
    (Cmade_point : Call P w K mg base k "made_point" ["coordinates"] spMadePt)
    (Ccoordinates : Call P w K mg base k "coordinates" ["point"] spCoord)
    (Cmiddle : Call P w K mg base k "middle" ["points"] spMid)
    (Ccombined : Call P w K mg base k "combined" ["weights", "vectors"] spComb)
    (Creversed_inequality : Call P w K mg base k "reversed_inequality" ["inequality"] spRev)
    (Cvalue_at : Call P w K mg base k "value_at" ["inequality", "point"] spVal)
    (Cmade_inequality : CallX P w K mg base k "made_inequality" ["row"] (spMI D_BadInequality)) : FnOk P w K mg base CX0 (k + 1) f fd ["script"] (spLaw K) := by
  refine F.ok sc_law (fun vs H Q E h => ?_) (fun cdv A outer s H vs Q E hr h => ?_)
  · obtain ⟨a, ns, rfl, _⟩ := h
    rfl
  · obtain ⟨sa, ns, rfl, hS, q⟩ := h
    refine ⟨_, (pss_cons (ps_set (i := 1) sc_law.nd rfl (.inr rfl) (pe_call C_law_pool.G hr (by rfl) C_law_pool.m C_law_pool.kp C_law_pool.b .nil pass0 (pa_cons (pv 0) pa_nil)))
      (pss_cons (ps_set (i := 2) sc_law.nd rfl (.inr rfl) (pe_op op_add pe_int (pe_call C_law_draw.G hr (by rfl) C_law_draw.m C_law_draw.kp C_law_draw.b .nil pass0 (pa_cons (pv 1) (pa_cons pe_int pa_nil)))))
      (pss_cut (ps_setLc (i := 3) (own := [("k", 13)]) (g := gName 13) (tt := tYes) (by rfl) sc_law.nd rfl rfl (sw_true rfl rfl rfl (by decide +kernel)) (pi_range1 rfl Z.m_range (pa_cons (pv 2) pa_nil)) (blkOk_by (own := [("k", 13)]) (N := ["script", "pool", "d", "row", "points", "total", "point", "place", "weights", "due", "scale", "told", "e", "k", "j", "x", "a"]) (sc := defScope s_law) (by first | decide +kernel | kernel_rfl)) (fun _ _ _ _ _ => (pg_name (i := 13) sc_law.nd rfl (.inl rfl))) (fun _ _ _ _ _ => pts_nil) (fun _ _ _ _ _ => (pe_call C_law_some_frac.G hr (by rfl) C_law_some_frac.m C_law_some_frac.kp C_law_some_frac.b .nil pass0 (pa_cons (pv 1) pa_nil))))
      (pss_cut (ps_if (PW.pt (pw_or (pt_not (pt_val (pe_call C_law_same.G hr (by rfl) C_law_same.m C_law_same.kp C_law_same.b .nil pass0 (pa_cons (pe_call Cmade_point.G hr (by rfl) Cmade_point.m Cmade_point.kp Cmade_point.b .nil pass0 (pa_cons (pv 3) pa_nil)) (pa_cons (pe_call C_law_of_coordinates.G hr (by rfl) C_law_of_coordinates.m C_law_of_coordinates.kp C_law_of_coordinates.b .nil pass0 (pa_cons (pv 3) pa_nil)) pa_nil))))) (pw_or1 (pt_not (pt_val (pe_call C_law_same.G hr (by rfl) C_law_same.m C_law_same.kp C_law_same.b .nil pass0 (pa_cons (pe_call Ccoordinates.G hr (by rfl) Ccoordinates.m Ccoordinates.kp Ccoordinates.b .nil pass0 (pa_cons (pe_call Cmade_point.G hr (by rfl) Cmade_point.m Cmade_point.kp Cmade_point.b .nil pass0 (pa_cons (pv 3) pa_nil)) pa_nil)) (pa_cons (pv 3) pa_nil)))))))) (pss_one ps_never) pss_nil)
      (pss_cut (ps_set (i := 4) sc_law.nd rfl (.inr rfl) (pe_lc (own := [("k", 13)]) (g := gName 13) (tt := tYes) (by rfl) sc_law.nd (pi_range1 rfl Z.m_range (pa_cons (pe_op op_add pe_int (pe_call C_law_draw.G hr (by rfl) C_law_draw.m C_law_draw.kp C_law_draw.b .nil pass0 (pa_cons (pv 1) (pa_cons pe_int pa_nil)))) pa_nil)) (blkOk_by (own := [("k", 13)]) (N := ["script", "pool", "d", "row", "points", "total", "point", "place", "weights", "due", "scale", "told", "e", "k", "j", "x", "a"]) (sc := defScope s_law) (by first | decide +kernel | kernel_rfl)) (fun _ _ _ _ _ => (pg_name (i := 13) sc_law.nd rfl (.inl rfl))) (fun _ _ _ _ _ => pts_nil) (fun _ _ _ _ _ => (pe_call C_law_point.G hr (by rfl) C_law_point.m C_law_point.kp C_law_point.b .nil pass0 (pa_cons (pv 1) (pa_cons (pv 2) (pa_cons pe_int pa_nil)))))))
      (pss_cut (ps_set (i := 5) sc_law.nd rfl (.inr rfl) (pe_op op_rep (pe_lst (pa_cons (pe_tup (pa_cons pe_int (pa_cons pe_int pa_nil))) pa_nil)) (pv 2)))
      (pss_cut (ps_for PassesOwn.never rfl (pi_list (pv 4)) (pg_name (i := 6) sc_law.nd rfl (.inl rfl)) (pss_cons (ps_set (i := 7) sc_law.nd rfl (.inr rfl) (pe_call C_law_coordinates.G hr (by rfl) C_law_coordinates.m C_law_coordinates.kp C_law_coordinates.b .nil pass0 (pa_cons (pv 6) pa_nil)))
      (pss_one (ps_set (i := 5) sc_law.nd rfl (.inr rfl) (pe_lc (own := [("k", 13)]) (g := gName 13) (tt := tYes) (by rfl) sc_law.nd (pi_range1 rfl Z.m_range (pa_cons (pv 2) pa_nil)) (blkOk_by (own := [("k", 13)]) (N := ["script", "pool", "d", "row", "points", "total", "point", "place", "weights", "due", "scale", "told", "e", "k", "j", "x", "a"]) (sc := defScope s_law) (by first | decide +kernel | kernel_rfl)) (fun _ _ _ _ _ => (pg_name (i := 13) sc_law.nd rfl (.inl rfl))) (fun _ _ _ _ _ => pts_nil) (fun _ _ _ _ _ => (pe_call C_law_add.G hr (by rfl) C_law_add.m C_law_add.kp C_law_add.b .nil pass0 (pa_cons (pe_ix (r := rIxL K) ix_list (pv 5) (pv 13) (fun _ _ => rfl)) (pa_cons (pe_ix (r := rIxL K) ix_list (pv 7) (pv 13) (fun _ _ => rfl)) pa_nil)))))))))
      (pss_cut (ps_if (pt_not (pt_val (pe_call C_law_same.G hr (by rfl) C_law_same.m C_law_same.kp C_law_same.b .nil pass0 (pa_cons (pe_call Cmiddle.G hr (by rfl) Cmiddle.m Cmiddle.kp Cmiddle.b .nil pass0 (pa_cons (pv 4) pa_nil)) (pa_cons (pe_call C_law_of_coordinates.G hr (by rfl) C_law_of_coordinates.m C_law_of_coordinates.kp C_law_of_coordinates.b .nil pass0 (pa_cons (pe_lc (own := [("x", 15)]) (g := gName 15) (tt := tYes) (by rfl) sc_law.nd (pi_list (pv 5)) (blkOk_by (own := [("x", 15)]) (N := ["script", "pool", "d", "row", "points", "total", "point", "place", "weights", "due", "scale", "told", "e", "k", "j", "x", "a"]) (sc := defScope s_law) (by first | decide +kernel | kernel_rfl)) (fun _ _ _ _ _ => (pg_name (i := 15) sc_law.nd rfl (.inl rfl))) (fun _ _ _ _ _ => pts_nil) (fun _ _ _ _ _ => (pe_call C_law_mul.G hr (by rfl) C_law_mul.m C_law_mul.kp C_law_mul.b .nil pass0 (pa_cons (pv 15) (pa_cons (pe_tup (pa_cons pe_int (pa_cons (pe_callB (id := "len") (r := rLen K) call_len_seq (by rfl) Z.m_len PySem.boot_len (pa_cons (pv 4) pa_nil)) pa_nil))) pa_nil))))) pa_nil)) pa_nil))))) (pss_one ps_never) pss_nil)
      (pss_cut (ps_set (i := 8) sc_law.nd rfl (.inr rfl) (pe_lc (own := [("point", 6)]) (g := gName 6) (tt := tYes) (by rfl) sc_law.nd (pi_list (pv 4)) (blkOk_by (own := [("point", 6)]) (N := ["script", "pool", "d", "row", "points", "total", "point", "place", "weights", "due", "scale", "told", "e", "k", "j", "x", "a"]) (sc := defScope s_law) (by first | decide +kernel | kernel_rfl)) (fun _ _ _ _ _ => (pg_name (i := 6) sc_law.nd rfl (.inl rfl))) (fun _ _ _ _ _ => pts_nil) (fun _ _ _ _ _ => (pe_op op_sub (pe_call C_law_draw.G hr (by rfl) C_law_draw.m C_law_draw.kp C_law_draw.b .nil pass0 (pa_cons (pv 1) (pa_cons pe_int pa_nil))) pe_int))))
      (pss_cut (ps_set (i := 9) sc_law.nd rfl (.inl rfl) (pe_callTy call_tuple_of (by rfl) Z.m_tuple (by decide +kernel) (pa_cons (pe_lc (own := [("j", 14)]) (g := gName 14) (tt := tYes) (by rfl) sc_law.nd (pi_range1 rfl Z.m_range (pa_cons (pe_op op_add (pv 2) pe_int) pa_nil)) (blkOk_by (own := [("j", 14)]) (N := ["script", "pool", "d", "row", "points", "total", "point", "place", "weights", "due", "scale", "told", "e", "k", "j", "x", "a"]) (sc := defScope s_law) (by first | decide +kernel | kernel_rfl)) (fun _ _ _ _ _ => (pg_name (i := 14) sc_law.nd rfl (.inr rfl))) (fun _ _ _ _ _ => pts_nil) (fun _ _ _ _ _ => (pe_callB (id := "sum") (r := rSum K) (cr_sum rfl) (by rfl) Z.m_sum (by decide +kernel) (pa_cons (pe_lc (own := [("k", 13)]) (g := gName 13) (tt := tYes) (by rfl) sc_law.nd (pi_range1 rfl Z.m_range (pa_cons (pe_callB (id := "len") (r := rLen K) call_len_seq (by rfl) Z.m_len PySem.boot_len (pa_cons (pv 4) pa_nil)) pa_nil)) (blkOk_by (own := [("k", 13)]) (N := ["script", "pool", "d", "row", "points", "total", "point", "place", "weights", "due", "scale", "told", "e", "k", "j", "x", "a"]) (by first | decide +kernel | kernel_rfl)) (fun _ _ _ _ _ => (pg_name (i := 13) sc_law.nd rfl (.inl rfl))) (fun _ _ _ _ _ => pts_nil) (fun _ _ _ _ _ => (pe_op op_mulW (pe_ix (r := rIxL K) ix_list (pv 8) (pv 13) (fun _ _ => rfl)) (pe_ix (r := rIxT K) ix_tup (pe_ix (r := rIxL K) ix_list (pv 4) (pv 13) (fun _ _ => rfl)) (pv 14) (fun _ _ => rfl))))) pa_nil)))) pa_nil)))
      (pss_cut (ps_if (PW.pt (pw_or (pt_not (pt_val (pe_call C_law_same.G hr (by rfl) C_law_same.m C_law_same.kp C_law_same.b .nil pass0 (pa_cons (pe_call Ccombined.G hr (by rfl) Ccombined.m Ccombined.kp Ccombined.b .nil pass0 (pa_cons (pv 8) (pa_cons (pv 4) pa_nil))) (pa_cons (pv 9) pa_nil))))) (pw_or1 (pt_not (pt_val (pe_call C_law_same.G hr (by rfl) C_law_same.m C_law_same.kp C_law_same.b .nil pass0 (pa_cons (pe_call Ccombined.G hr (by rfl) Ccombined.m Ccombined.kp Ccombined.b .nil pass0 (pa_cons (pe_callTy call_tuple_of (by rfl) Z.m_tuple (by decide +kernel) (pa_cons (pv 8) pa_nil)) (pa_cons (pv 4) pa_nil))) (pa_cons (pv 9) pa_nil)))))))) (pss_one ps_never) pss_nil)
      (pss_cons (ps_set (i := 10) sc_law.nd rfl (.inr rfl) (pe_op op_add pe_int (pe_call C_law_draw.G hr (by rfl) C_law_draw.m C_law_draw.kp C_law_draw.b .nil pass0 (pa_cons (pv 1) (pa_cons pe_int pa_nil)))))
      (pss_cut (ps_set (i := 3) sc_law.nd rfl (.inl rfl) (pe_callTy call_tuple_of (by rfl) Z.m_tuple (by decide +kernel) (pa_cons (pe_lc (own := [("k", 13)]) (g := gName 13) (tt := tYes) (by rfl) sc_law.nd (pi_range1 rfl Z.m_range (pa_cons (pe_op op_add (pv 2) pe_int) pa_nil)) (blkOk_by (own := [("k", 13)]) (N := ["script", "pool", "d", "row", "points", "total", "point", "place", "weights", "due", "scale", "told", "e", "k", "j", "x", "a"]) (sc := defScope s_law) (by first | decide +kernel | kernel_rfl)) (fun _ _ _ _ _ => (pg_name (i := 13) sc_law.nd rfl (.inl rfl))) (fun _ _ _ _ _ => pts_nil) (fun _ _ _ _ _ => (pe_op op_mulW (pe_op op_mulW (pv 10) (pe_op op_sub (pe_call C_law_draw.G hr (by rfl) C_law_draw.m C_law_draw.kp C_law_draw.b .nil pass0 (pa_cons (pv 1) (pa_cons pe_int pa_nil))) pe_int)) (pe_callTy call_int1 (by rfl) Z.m_int (by decide +kernel) (pa_cons (pe_cmpR op_gt (pe_call C_law_draw.G hr (by rfl) C_law_draw.m C_law_draw.kp C_law_draw.b .nil pass0 (pa_cons (pv 1) (pa_cons pe_int pa_nil))) pe_int (nomark _)) pa_nil))))) pa_nil)))
      (pss_cut (ps_try_as (i := 12) rfl rfl sc_law.nd rfl rfl ⟨rfl, by decide, .inl E_BadInequality.g⟩ takes0 (fun W pn xe tk _ => (pss_one (ps_set (i := 11) sc_law.nd rfl (.inl rfl) (pe_callS Cmade_inequality.G hr (by rfl) Cmade_inequality.m Cmade_inequality.kp Cmade_inequality.b (fun σ => passAt tk σ) (pa_cons (pv 3) pa_nil)))))
      (fun a oe cls d pn hz hf => (pss_one (ps_ret (pe_and (pe_cmpR (r := rEqD K) (op_eqD hr.units) (pe_slice (r := rSlA K) sl_tupA (pv 3) (po_some pe_int) po_none) (pe_op (r := rRepA K) op_repA (pe_tup (pa_cons pe_int pa_nil)) (pv 2)) (nomark _)) (pe_one (pe_not (pe_callB (r := rE K D_BadInequality a cls d) (call_isE2 X_BadInequality hz hf) (by rfl) Z.m_isinstance (by decide +kernel) (pa_cons (pv 12) (pa_cons (pe_glob (v := .ref D_BadNumber) rfl E_BadNumber rfl) pa_nil))))))))))
      (pss_cons (ps_if (PW.pt (pw_or (pt_cmpR (r := rEqD K) (op_eqD hr.units) (pe_slice (r := rSlA K) sl_tupA (pv 3) (po_some pe_int) po_none) (pe_op (r := rRepA K) op_repA (pe_tup (pa_cons pe_int pa_nil)) (pv 2)) (nomark _)) (pw_or1 (pt_not (pt_val (pe_call C_law_same.G hr (by rfl) C_law_same.m C_law_same.kp C_law_same.b .nil pass0 (pa_cons (pv 11) (pa_cons (pe_call C_law_prim.G hr (by rfl) C_law_prim.m C_law_prim.kp C_law_prim.b .nil pass0 (pa_cons (pv 3) pa_nil)) pa_nil)))))))) (pss_one ps_never) pss_nil)
      (pss_cons (ps_if (pt_not (pt_val (pe_call C_law_same.G hr (by rfl) C_law_same.m C_law_same.kp C_law_same.b .nil pass0 (pa_cons (pe_call Creversed_inequality.G hr (by rfl) Creversed_inequality.m Creversed_inequality.kp Creversed_inequality.b .nil pass0 (pa_cons (pv 11) pa_nil)) (pa_cons (pe_callTy call_tuple_of (by rfl) Z.m_tuple (by decide +kernel) (pa_cons (pe_lc (own := [("a", 16)]) (g := gName 16) (tt := tYes) (by rfl) sc_law.nd (pi_tup (pv 11)) (blkOk_by (own := [("a", 16)]) (N := ["script", "pool", "d", "row", "points", "total", "point", "place", "weights", "due", "scale", "told", "e", "k", "j", "x", "a"]) (sc := defScope s_law) (by first | decide +kernel | kernel_rfl)) (fun _ _ _ _ _ => (pg_name (i := 16) sc_law.nd rfl (.inl rfl))) (fun _ _ _ _ _ => pts_nil) (fun _ _ _ _ _ => (pe_un un_neg (pv 16)))) pa_nil)) pa_nil))))) (pss_one ps_never) pss_nil)
      (pss_one (ps_ret (pe_call C_law_same.G hr (by rfl) C_law_same.m C_law_same.kp C_law_same.b .nil pass0 (pa_cons (pe_call Cvalue_at.G hr (by rfl) Cvalue_at.m Cvalue_at.kp Cvalue_at.b .nil pass0 (pa_cons (pv 11) (pa_cons (pe_ix (r := rIxL K) ix_list (pv 4) pe_int (fun _ _ => rfl)) pa_nil))) (pa_cons (pe_call C_law_frac.G hr (by rfl) C_law_frac.m C_law_frac.kp C_law_frac.b .nil pass0 (pa_cons (pe_call C_law_dot.G hr (by rfl) C_law_dot.m C_law_dot.kp C_law_dot.b .nil pass0 (pa_cons (pv 11) (pa_cons (pe_ix (r := rIxL K) ix_list (pv 4) pe_int (fun _ _ => rfl)) pa_nil))) (pa_cons (pe_ix (r := rIxT K) ix_tup (pe_ix (r := rIxL K) ix_list (pv 4) pe_int (fun _ _ => rfl)) pe_int (fun _ _ => rfl)) pa_nil))) pa_nil))))))))))))))))))))), ?_⟩
    refine ⟨_, rfl, sa, ns, rfl, hS, fun H1 p s1 np hP => ?_⟩
    refine ⟨_, rfl, p, _, rfl, by decide, by decide, hP, fun v0 H2 l0 u0 P2 B2 => ⟨_, _, rfl, rfl, ?_⟩⟩
    obtain ⟨dn, rfl⟩ := Int.eq_ofNat_of_zero_le l0
    have ed : (1 + (dn : Int)) = ((dn + 1 : Nat) : Int) := by omega
    show gName 2 (V.int (1 + (dn : Int))) _ _ _
    rw [ed]
    -- row
    refine ⟨fun σ H' => ∃ (l : Addr) (fs : List (Int × Int)), σ = [some (.ref sa), some (.ref p), some (.int ((dn + 1 : Nat) : Int)), some (.ref l), none, none, none, none, none, none, none, none, none, none, none, none, none] ∧ Pl H' p ∧ l ≠ p ∧ FL H' l fs 100 ∧ fs.length = dn + 1 ∧ (∀ f ∈ fs, Low f) ∧ (∀ f ∈ fs, f.1.natAbs < 2 ^ 85) ∧ (∀ f ∈ fs, f.2.natAbs < 2 ^ 45), ?_, ?_⟩
    · refine ⟨_, rfl, _, rfl, by omega, by omega, fun D nD => ?_⟩
      refine lc_range (lo := 0) (n := dn + 1) (DrR FrOk p H2 D) (drR0 P2 nD) (fun i H3 hi hW => ?_) (fun H3 hW => ?_)
      · refine ⟨rfl, ?_⟩
        unfold tYes
        refine iteT ?_
        refine ⟨_, rfl, p, rfl, hW.pt, fun r H4 n d P4 K4 F4 bn bd lo => ?_⟩
        obtain ⟨acc, h1, h2, h3⟩ := drR_step (R := FrOk) (fun A1 A2 f r h g => ⟨⟨h _ g.1.1, g.1.2⟩, g.2⟩) nD P2 hW K4 P4 F4.1 (f := (n, d)) ⟨F4, bn, bd, lo⟩
        exact ⟨acc, h1, small1000 (by omega), h3⟩
      · have P3 := hW.pt
        obtain ⟨_, _, rs, fs, e, lr, lf, g⟩ := hW
        have g' : ∀ f ∈ fs, ∃ r, FrOk H3 f r := fun f hf => by
          obtain ⟨j, hj⟩ := List.getElem?_of_mem hf
          have : rs[j]? = some (rs[j]'(by have := lt_of_get hj; omega)) := List.getElem?_eq_getElem _
          exact ⟨_, (g j _ f this hj).1⟩
        refine ⟨D, fs, rfl, P3, ne_pool P2 nD, ⟨rs, e, by omega, fun i r hr => ?_⟩, lf, fun f hf => ?_, fun f hf => ?_, fun f hf => ?_⟩
        · have : fs[i]? = some (fs[i]'(by have := lt_of_get hr; omega)) := List.getElem?_eq_getElem _
          exact ⟨_, this, (g i r _ hr this).1.1⟩
        · obtain ⟨r, h⟩ := g' f hf; exact h.2.2.2
        · obtain ⟨r, h⟩ := g' f hf; exact h.2.1
        · obtain ⟨r, h⟩ := g' f hf; exact h.2.2.1
    intro σ H3 hW
    obtain ⟨l, fs, rfl, P3, lp, F3, lf, hlow, bn, bd⟩ := hW
    obtain ⟨L0', _, Ld', _⟩ := lcmD_facts fs 1 (by decide) fun f hf => (hlow f hf).1
    have L0 : 0 < lcmD fs := L0'
    have Ld : ∀ f ∈ fs, f.2 ∣ lcmD fs := Ld'
    have Llim : (lcmD fs).natAbs < 2 ^ 181 := up_pow (lcm_lim3 bd) (by omega)
    -- made_point
    refine ⟨fun σ H' => ∃ (y3 : Option V), σ = [some (.ref sa), some (.ref p), some (.int ((dn + 1 : Nat) : Int)), y3, none, none, none, none, none, none, none, none, none, none, none, none, none] ∧ Pl H' p, ?_, ?_⟩
    · have b300 : ∀ f ∈ fs, f.2.natAbs < 2 ^ 300 := fun f hf => up_pow (bd f hf) (by decide)
      have c300 : ∀ f ∈ fs, f.1.natAbs < 2 ^ 300 := fun f hf => up_pow (bn f hf) (by decide)
      refine ⟨_, rfl, l, fs, rfl, F3.up (by decide), hlow, b300, c300, by omega, by omega, fun H4 r4 s4 R4 => ?_⟩
      refine ⟨_, rfl, l, fs, 45, rfl, (F3.same s4).up (by decide), hlow, bd, fun f hf => up_pow (bn f hf) (by decide), by omega, by omega, fun H5 r5 s5 R5 => ?_⟩
      refine ⟨_, _, rfl, vc_alike 1 (R4.same s5) R5 (by unfold over1; rw [List.length_cons, List.length_map]; omega), true, rfl, iteF ?_⟩
      have s45 := s4.trans s5
      refine ⟨_, rfl, l, fs, rfl, (F3.same s45).up (by decide), hlow, b300, c300, by omega, by omega, fun H6 r6 s6 R6 => ?_⟩
      refine ⟨r6, lcmD fs, fs.map fun f : Int × Int => f.1 * (lcmD fs / f.2), rfl, R6, L0, up_pow Llim (by decide), fun x hx => ?_, by rw [List.length_map]; omega, fun H7 l7 s7 F7 => ⟨_, rfl, ?_⟩⟩
      · obtain ⟨f, hf, rfl⟩ := List.mem_map.mp hx
        exact up_pow (mul_pow (bn f hf) (Nat.lt_of_le_of_lt (ediv_abs (hlow f hf).1) Llim)) (by decide)
      rw [made_back hlow L0 Ld] at F7
      refine ⟨_, _, rfl, fl_alike F7 (F3.same ((s45.trans s6).trans s7)) (by omega), true, rfl, iteF ?_⟩
      exact ⟨_, rfl, P3.same ((s45.trans s6).trans s7)⟩
    intro σ H4 hW
    obtain ⟨y3, rfl, P4⟩ := hW
    clear F3 P3
    -- points
    refine ⟨fun σ H' => ∃ (l : Addr) (vss : List (List Int)), σ = [some (.ref sa), some (.ref p), some (.int ((dn + 1 : Nat) : Int)), y3, some (.ref l), none, none, none, none, none, none, none, none, none, none, none, none] ∧ Pl H' p ∧ l ≠ p ∧ VL H' l vss ∧ 1 ≤ vss.length ∧ vss.length ≤ 5 ∧ (∀ v ∈ vss, v.length = dn + 2) ∧ (∀ v ∈ vss, ∀ x ∈ v, x.natAbs ≤ 3) ∧ (∀ v ∈ vss, 0 < v.headD 1), ?_, ?_⟩
    · refine ⟨_, rfl, p, _, rfl, by decide, by decide, P4, fun vc H5 l5 u5 P5 B5 => ⟨_, _, rfl, rfl, _, rfl, by omega, by omega, fun D nD => ?_⟩⟩
      refine lc_range (lo := 0) (n := (1 + vc).toNat) (DrR (VcOk (dn + 2)) p H5 D) (drR0 P5 nD) (fun i H6 hi hW => ?_) (fun H6 hW => ?_)
      · refine ⟨rfl, ?_⟩
        unfold tYes
        refine iteT ?_
        refine ⟨_, rfl, _, rfl, p, dn + 1, 5, rfl, by omega, by decide, by decide, hW.pt, fun H7 r ns7 P7 K7 V7 L7 S7 W7 => ?_⟩
        have hd7 : 0 < ns7.headD 1 := by
          obtain ⟨w0, h1, h2⟩ := W7
          cases ns7 with
          | nil => cases h1
          | cons x r => cases h1; exact h2
        obtain ⟨acc, h1, h2, h3⟩ := drR_step (R := VcOk (dn + 2)) (fun A1 A2 f r h g => ⟨h _ g.1, g.2⟩) nD P5 hW K7 P7 V7 (f := ns7) ⟨V7, L7, S7, hd7⟩
        exact ⟨acc, h1, small1000 (by omega), h3⟩
      · have P6 := hW.pt
        obtain ⟨_, _, rs, vss, e, lr, lf, g⟩ := hW
        have g' : ∀ v ∈ vss, ∃ r, VcOk (dn + 2) H6 v r := fun f hf => by
          obtain ⟨j, hj⟩ := List.getElem?_of_mem hf
          have : rs[j]? = some (rs[j]'(by have := lt_of_get hj; omega)) := List.getElem?_eq_getElem _
          exact ⟨_, (g j _ f this hj).1⟩
        refine ⟨D, vss, rfl, P6, ne_pool P5 nD, ⟨rs, e, by omega, fun i r hr => ?_⟩, by omega, by omega, fun v hv => ?_, fun v hv => ?_, fun v hv => ?_⟩
        · have : vss[i]? = some (vss[i]'(by have := lt_of_get hr; omega)) := List.getElem?_eq_getElem _
          exact ⟨_, this, (g i r _ hr this).1.1⟩
        · obtain ⟨r, h⟩ := g' v hv; exact h.2.1
        · obtain ⟨r, h⟩ := g' v hv; exact h.2.2.1
        · obtain ⟨r, h⟩ := g' v hv; exact h.2.2.2
    intro σ H5 hW
    obtain ⟨l, vss, rfl, P5, lp, V5, m1, m5, vn, vB, vh⟩ := hW
    have head : ∀ v ∈ vss, 0 < v.headD 1 ∧ v[0]? = some (v.headD 1) := fun v hv => ⟨vh v hv, by
      have := vn v hv
      cases v with
      | nil => simp at this
      | cons x r => rfl⟩
    have cons : ∀ v ∈ vss, v = v.headD 1 :: v.drop 1 := fun v hv => by
      have := vn v hv
      cases v with
      | nil => simp at this
      | cons x r => rfl
    have vB5 : ∀ v ∈ vss, ∀ x ∈ v, x.natAbs < 2 ^ 5 := fun v hv x hx => by
      have := vB v hv x hx
      omega
    obtain ⟨C0', _, Cd', _⟩ := lcmD_facts (wsOf vss) 1 (by decide) (fun f hf => by obtain ⟨v, hv, rfl⟩ := List.mem_map.mp hf; exact vh v hv)
    have C0 : 0 < lcmW vss := C0'
    have Cd : ∀ v ∈ vss, v.headD 1 ∣ lcmW vss := fun v hv => Cd' (0, v.headD 1) (List.mem_map.mpr ⟨v, hv, rfl⟩)
    -- total
    refine ⟨fun σ H' => ∃ (u : Addr), σ = [some (.ref sa), some (.ref p), some (.int ((dn + 1 : Nat) : Int)), y3, some (.ref l), some (.ref u), none, none, none, none, none, none, none, none, none, none, none] ∧ Pl H' p ∧ VL H' l vss ∧ FL H' u (List.replicate (dn + 1) (0, 1)) 100, ?_, ?_⟩
    · refine ⟨ints2 _ _, fun t nt => ⟨Nat.le_of_lt (small1000 (show 1 ≤ 1000 by decide)), fun z nz => ?_⟩⟩
      have s6 := same_upd (o := .tup [.int 0, .int 1]) nt
      have s7 := same_upd (o := .lst [.ref t]) nz
      refine ⟨_, rfl, z, _, _, rfl, rfl, upd_same, by omega, by omega, ?_, fun u nu => ?_⟩
      · exact Nat.le_of_lt (small1000 (by show 1 * _ ≤ 1000; omega))
      have s8 := same_upd (o := .lst (List.replicate (((dn + 1 : Nat) : Int)).toNat [V.ref t]).flatten) nu
      have sA := (s6.trans s7).trans s8
      have rr : ∀ n : Nat, (List.replicate n [V.ref t]).flatten = (List.replicate n t).map V.ref := fun n => by
        induction n with
        | zero => rfl
        | succ n ih =>
          rw [List.replicate_succ, List.replicate_succ, List.flatten_cons, ih]
          rfl
      have tH : ∀ Hq : Hp, Fr (upd Hq t (.tup [.int 0, .int 1])) t 0 1 100 := fun Hq => ⟨upd_same, by decide, by decide, by decide⟩
      refine ⟨u, rfl, P5.same sA, V5.same sA, List.replicate (dn + 1) t, ?_, ?_, fun i r hr => ⟨(0, 1), ?_, ?_⟩⟩
      · rw [upd_same, rr]
        rfl
      · rw [List.length_replicate, List.length_replicate]
      · have := lt_of_get hr
        rw [List.length_replicate] at this
        rw [List.getElem?_replicate, if_pos this]
      · have e := List.eq_of_mem_replicate (List.mem_of_getElem? hr)
        rw [e]
        exact ((tH _).same s7).same s8
    intro σ H6 hW
    obtain ⟨u0, rfl, P6, V6, F6⟩ := hW
    -- the sums
    have V6' := V6
    obtain ⟨rs, el, rl, rg⟩ := V6'
    refine ⟨fun σ H' => ∃ (u : Addr) (fs : List (Int × Int)) (y6 y7 : Option V), σ = [some (.ref sa), some (.ref p), some (.int ((dn + 1 : Nat) : Int)), y3, some (.ref l), some (.ref u), y6, y7, none, none, none, none, none, none, none, none, none] ∧ Same H6 H' ∧ FL H' u fs 100 ∧ fs.length = dn + 1 ∧ (∀ f ∈ fs, Low f) ∧ (∀ f ∈ fs, f.1.natAbs < 2 ^ 60) ∧ (∀ f ∈ fs, f.2.natAbs < 2 ^ 26) ∧ ∀ j f, fs[j]? = some f → f.1 * lcmW vss = f.2 * colS (midW vss) vss (j + 1) vss.length, ?_, ?_⟩
    · have zero : ∀ f ∈ List.replicate (dn + 1) ((0 : Int), (1 : Int)), f = (0, 1) := fun f hf => List.eq_of_mem_replicate hf
      refine ⟨_, rfl, l, rfl, ⟨_, SqL.of el⟩, ?_⟩
      refine for_list (xs := rs.map V.ref) (fun i σ H' => ∃ (u : Addr) (fs : List (Int × Int)) (y6 y7 : Option V), σ = [some (.ref sa), some (.ref p), some (.int ((dn + 1 : Nat) : Int)), y3, some (.ref l), some (.ref u), y6, y7, none, none, none, none, none, none, none, none, none] ∧ Same H6 H' ∧ FL H' u fs 100 ∧ fs.length = dn + 1 ∧ (∀ f ∈ fs, Low f) ∧ (∀ f ∈ fs, f.1.natAbs < 2 ^ (6 * i + 6)) ∧ (∀ f ∈ fs, f.2.natAbs < 2 ^ (5 * i + 1)) ∧ ∀ j f, fs[j]? = some f → f.1 * lcmW vss = f.2 * colS (midW vss) vss (j + 1) i)
        ⟨u0, _, _, _, rfl, Same.refl _, F6, List.length_replicate, fun f hf => by rw [zero f hf]; exact ⟨by decide, by decide⟩, fun f hf => by rw [zero f hf]; exact (by decide : 0 < 2 ^ 6), fun f hf => by rw [zero f hf]; exact (by decide : 1 < 2 ^ 1), fun j f hf => by
          rw [zero f (List.mem_of_getElem? hf)]
          show 0 * lcmW vss = 1 * 0
          rw [Int.zero_mul, Int.mul_zero]⟩
        (fun i σ H' _ hP => by obtain ⟨_, _, _, _, _, s, _⟩ := hP; exact SqL.of (s _ _ el)) (fun i x σ H' hx hP => ?_) (fun σ H' hP => ?_)
      · obtain ⟨u, fs, y6, y7, rfl, sH, Fu, lfs, low, bn, bd, sum⟩ := hP
        obtain ⟨r, hri, rfl⟩ := ref_get hx
        obtain ⟨v, hvi, V1⟩ := rg i r hri
        have hvm := List.mem_of_getElem? hvi
        have hi := lt_of_get hvi
        obtain ⟨us, eu, lu, gu⟩ := Fu
        have V2 : Vc H' r (v.headD 1 :: v.drop 1) := by rw [← cons v hvm]; exact V1.same sH
        have xl : (v.drop 1).length = dn + 1 := by rw [List.length_drop, vn v hvm]; rfl
        have hdw := vh v hvm
        have hdB : (v.headD 1).natAbs ≤ 3 := vB v hvm _ (List.mem_of_getElem? (head v hvm).2)
        refine ⟨_, rfl, r, v.headD 1, v.drop 1, rfl, V2, hdw, Nat.lt_of_le_of_lt hdB (by decide), fun x hx => Nat.lt_of_le_of_lt (vB v hvm x (List.mem_of_mem_drop hx)) (by decide), by omega, fun H8 pl s8 F8 => ?_⟩
        obtain ⟨ps, ep, lp', gp⟩ := F8
        rw [List.length_map, xl] at lp'
        refine ⟨_, rfl, _, rfl, by omega, by omega, fun D nD => ?_⟩
        refine lc_range (lo := 0) (n := dn + 1) (fun j H'' => Same H8 H'' ∧ ∃ ts : List Addr, H'' D = some (.lst (ts.map V.ref)) ∧ ts.length = j ∧ ∀ k r, ts[k]? = some r → ∃ f x, fs[k]? = some f ∧ (v.drop 1)[k]? = some x ∧ Fr H'' r (frN (f.1 * frD x (v.headD 1) + frN x (v.headD 1) * f.2) (f.2 * frD x (v.headD 1))) (frD (f.1 * frD x (v.headD 1) + frN x (v.headD 1) * f.2) (f.2 * frD x (v.headD 1))) 100)
          ⟨same_upd nD, [], upd_same, rfl, fun j r h => no_get h⟩ (fun j H9 hj hP => ?_) (fun H9 hP => ?_)
        · obtain ⟨s9, ts, eD, lt, gt⟩ := hP
          have e0 : (0 : Int) + (j : Int) = ((j : Nat) : Int) := Int.zero_add _
          rw [e0]
          have gu1 : us[j]? = some (us[j]'(by omega)) := List.getElem?_eq_getElem (by omega)
          obtain ⟨f, hf, Ff⟩ := gu j _ gu1
          have gp1 : ps[j]? = some (ps[j]'(by omega)) := List.getElem?_eq_getElem (by omega)
          obtain ⟨g, hg, Fg⟩ := gp j _ gp1
          have gx : (v.drop 1)[j]? = some ((v.drop 1)[j]'(by omega)) := List.getElem?_eq_getElem (by omega)
          have eg : g = (frN ((v.drop 1)[j]'(by omega)) (v.headD 1), frD ((v.drop 1)[j]'(by omega)) (v.headD 1)) := by
            rw [List.getElem?_map, gx] at hg
            exact (Option.some.inj hg).symm
          subst eg
          have xB : ((v.drop 1)[j]'(by omega)).natAbs ≤ 3 := vB v hvm _ (List.mem_of_mem_drop (List.mem_of_getElem? gx))
          generalize hxe : ((v.drop 1)[j]'(by omega)) = x at *
          have nx : (frN x (v.headD 1)).natAbs < 2 ^ 5 := Nat.lt_of_le_of_lt (Nat.le_trans (frN_abs (by omega)) xB) (by decide)
          have dx : (frD x (v.headD 1)).natAbs < 2 ^ 5 := Nat.lt_of_le_of_lt (Nat.le_trans (frD_abs (by omega)) hdB) (by decide)
          have hf1 := bn f (List.mem_of_getElem? hf)
          have hf2 := bd f (List.mem_of_getElem? hf)
          have Ff9 := (Ff.same s8).same s9
          have Fg9 := Fg.same s9
          refine ⟨rfl, ?_⟩
          unfold tYes
          refine iteT ?_
          refine ⟨_, rfl, _, rfl, _, _, _, _, rfl, rfl, SqL.of (s9 _ _ (s8 _ _ eu)), atI_nat (get_ref gu1), _, rfl, _, rfl, _, _, _, _, rfl, rfl, SqL.of (s9 _ _ ep), atI_nat (get_ref gp1), _, _, f.1, f.2, _, _, rfl, Ff9.up (by decide), ⟨Fg9.1, Fg9.2.1, up_pow nx (by decide), up_pow dx (by decide)⟩, fun t nt => ?_⟩
          have st := same_upd (o := .tup [.int (frN (f.1 * frD x (v.headD 1) + frN x (v.headD 1) * f.2) (f.2 * frD x (v.headD 1))), .int (frD (f.1 * frD x (v.headD 1) + frN x (v.headD 1) * f.2) (f.2 * frD x (v.headD 1)))]) nt
          have Dt : D ≠ t := ne_of_none eD nt
          refine ⟨_, st _ _ eD, by rw [List.length_map]; exact small1000 (by omega), ?_, ts ++ [t], by rw [upd_same, List.map_append]; rfl, by rw [List.length_append, lt]; rfl, fun k r hr => ?_⟩
          · intro y o hy
            have : y ≠ D := ne_of_none hy nD
            rw [upd_ne this]
            exact st _ _ (s9 _ _ hy)
          · rcases app_get hr with hr | ⟨hk, rfl⟩
            · obtain ⟨f', x', a1, a2, a3⟩ := gt k r hr
              exact ⟨f', x', a1, a2, by rw [upd_ne (ne_of a3.1 eD (fun z => nomatch z))]; exact st _ _ a3.1, a3.2⟩
            · have hk' : k = j := by omega
              subst hk'
              have pos := Int.mul_pos Ff.2.1 Fg9.2.1
              have m1 := mul_pow hf1 dx
              have m2 := mul_pow nx hf2
              have a1 : (f.1 * frD x (v.headD 1) + frN x (v.headD 1) * f.2).natAbs < 2 ^ 100 := up_pow (add_pow (a := 90) (up_pow m1 (by omega)) (up_pow m2 (by omega))) (by decide)
              have a2 : (f.2 * frD x (v.headD 1)).natAbs < 2 ^ 100 := up_pow (mul_pow hf2 dx) (by omega)
              have mk := Fr.mk (H := H9) (p := r) pos a1 a2
              exact ⟨f, x, hf, gx, by rw [upd_ne Dt.symm]; exact mk.1, mk.2⟩
        · obtain ⟨s9, ts, eD, lt, gt⟩ := hP
          -- the new list
          have get : ∀ k (hk : k < dn + 1), ∃ f x, fs[k]? = some f ∧ (v.drop 1)[k]? = some x ∧ ∃ r, ts[k]? = some r ∧ Fr H9 r (frN (f.1 * frD x (v.headD 1) + frN x (v.headD 1) * f.2) (f.2 * frD x (v.headD 1))) (frD (f.1 * frD x (v.headD 1) + frN x (v.headD 1) * f.2) (f.2 * frD x (v.headD 1))) 100 := fun k hk => by
            have g1 : ts[k]? = some (ts[k]'(by omega)) := List.getElem?_eq_getElem (by omega)
            obtain ⟨f, x, a1, a2, a3⟩ := gt k _ g1
            exact ⟨f, x, a1, a2, _, g1, a3⟩
          let nf : Int × Int → Int → Int × Int := fun f x => (frN (f.1 * frD x (v.headD 1) + frN x (v.headD 1) * f.2) (f.2 * frD x (v.headD 1)), frD (f.1 * frD x (v.headD 1) + frN x (v.headD 1) * f.2) (f.2 * frD x (v.headD 1)))
          have zg : ∀ k f', (List.zipWith nf fs (v.drop 1))[k]? = some f' → ∃ f x, fs[k]? = some f ∧ (v.drop 1)[k]? = some x ∧ f' = nf f x := fun k f' h => by
            rw [List.getElem?_zipWith] at h
            cases e1 : fs[k]? with
            | none => rw [e1] at h; cases h
            | some f =>
              cases e2 : (v.drop 1)[k]? with
              | none => rw [e1, e2] at h; cases h
              | some x =>
                rw [e1, e2] at h
                exact ⟨f, x, by first | rfl | exact e1, by first | rfl | exact e2, (Option.some.inj h).symm⟩
          have zl : (List.zipWith nf fs (v.drop 1)).length = dn + 1 := by rw [List.length_zipWith, lfs, xl, Nat.min_self]
          have facts : ∀ f' ∈ List.zipWith nf fs (v.drop 1), ∃ f x, f ∈ fs ∧ x ∈ v.drop 1 ∧ f' = nf f x := fun f' h => by
            obtain ⟨k, hk⟩ := List.getElem?_of_mem h
            obtain ⟨f, x, a1, a2, a3⟩ := zg k f' hk
            exact ⟨f, x, List.mem_of_getElem? a1, List.mem_of_getElem? a2, a3⟩
          have dpos : ∀ (f : Int × Int) x, f ∈ fs → 0 < f.2 * frD x (v.headD 1) := fun f x h => Int.mul_pos (low f h).1 (frD_pos hdw)
          have nx : ∀ x ∈ v.drop 1, (frN x (v.headD 1)).natAbs < 2 ^ 5 := fun x hx => Nat.lt_of_le_of_lt (Nat.le_trans (frN_abs (by omega)) (vB v hvm x (List.mem_of_mem_drop hx))) (by decide)
          have dx : ∀ x : Int, (frD x (v.headD 1)).natAbs < 2 ^ 5 := fun x => Nat.lt_of_le_of_lt (Nat.le_trans (frD_abs (by omega)) hdB) (by decide)
          refine ⟨D, List.zipWith nf fs (v.drop 1), _, _, rfl, (sH.trans s8).trans s9, ⟨ts, eD, by rw [zl]; exact lt, fun k r hr => ?_⟩, zl, fun f' h => ?_, fun f' h => ?_, fun f' h => ?_, fun j f' h => ?_⟩
          · obtain ⟨f, x, a1, a2, a3⟩ := gt k r hr
            refine ⟨nf f x, ?_, a3⟩
            rw [List.getElem?_zipWith, a1, a2]
          · obtain ⟨f, x, a1, a2, rfl⟩ := facts f' h
            exact low_fr (dpos f x a1)
          · obtain ⟨f, x, a1, a2, rfl⟩ := facts f' h
            have m1 := mul_pow (bn f a1) (dx x)
            have m2 := mul_pow (nx x a2) (bd f a1)
            have ne := dpos f x a1
            refine Nat.lt_of_le_of_lt (frN_abs (by omega)) (up_pow (add_pow (a := 6 * i + 11) (up_pow m1 (by omega)) (up_pow m2 (by omega))) (by omega))
          · obtain ⟨f, x, a1, a2, rfl⟩ := facts f' h
            have ne := dpos f x a1
            exact Nat.lt_of_le_of_lt (frD_abs (by omega)) (up_pow (mul_pow (bd f a1) (dx x)) (by omega))
          · obtain ⟨f, x, a1, a2, rfl⟩ := zg j f' h
            have fm := List.mem_of_getElem? a1
            have hc : v.headD 1 * (lcmW vss / v.headD 1) = lcmW vss := div_mul (Cd v hvm)
            have st := sum_step (x := x) (S := colS (midW vss) vss (j + 1) i) (low f fm).1 (frD_pos (a := x) hdw) (sum j f a1) (fr_cross (a := x) hdw) hc (fr_cross (a := f.1 * frD x (v.headD 1) + frN x (v.headD 1) * f.2) (dpos f x fm))
            show (nf f x).1 * lcmW vss = (nf f x).2 * (colS (midW vss) vss (j + 1) i + (midW vss).getD i 0 * (vss.getD i []).getD (j + 1) 0)
            have g1 : (midW vss).getD i 0 = lcmW vss / v.headD 1 := by
              rw [List.getD_eq_getElem?_getD]
              unfold midW
              rw [List.getElem?_map, hvi]
              rfl
            have g2 : (vss.getD i []).getD (j + 1) 0 = x := by
              rw [List.getD_eq_getElem?_getD, List.getD_eq_getElem?_getD, hvi]
              simp only [Option.getD_some]
              rw [List.getElem?_drop, Nat.add_comm] at a2
              rw [a2]
              rfl
            rw [g1, g2]
            exact st
      · obtain ⟨u, fs, y6, y7, rfl, sH, Fu, lfs, low, bn, bd, sum⟩ := hP
        have rlen : (rs.map V.ref).length = vss.length := by rw [List.length_map]; exact rl
        rw [rlen] at bn bd sum
        exact ⟨u, fs, _, _, rfl, sH, Fu, lfs, low, fun f hf => up_pow (bn f hf) (by omega), fun f hf => up_pow (bd f hf) (by omega), sum⟩
    intro σ H7 hW
    obtain ⟨u, fs7, y6, y7, rfl, s7, F7, l7, low7, n7, d7, sum7⟩ := hW
    have P7 := P6.same s7
    have V7 := V6.same s7
    -- the middle
    refine ⟨fun σ H' => ∃ (y5 y6 y7 : Option V), σ = [some (.ref sa), some (.ref p), some (.int ((dn + 1 : Nat) : Int)), y3, some (.ref l), y5, y6, y7, none, none, none, none, none, none, none, none, none] ∧ Pl H' p ∧ VL H' l vss, ?_, ?_⟩
    · refine ⟨_, rfl, l, vss, dn + 2, rfl, V7, m1, by omega, vn, by omega, by omega, vh, vB5, fun H8 r8 s8 R8 => ?_⟩
      obtain ⟨us, eu, lu, gu⟩ := F7
      have el8 := s8 _ _ (s7 _ _ el)
      have rlen : (rs.map V.ref).length = vss.length := by rw [List.length_map]; exact rl
      refine ⟨_, rfl, u, rfl, ⟨_, SqL.of (s8 _ _ eu)⟩, fun D nD => ?_⟩
      let av : Int × Int → Int × Int := fun f => (frN (f.1 * 1) (f.2 * (vss.length : Int)), frD (f.1 * 1) (f.2 * (vss.length : Int)))
      refine lc_list (xs := us.map V.ref) (fun j H' => Same H8 H' ∧ ∃ ts : List Addr, H' D = some (.lst (ts.map V.ref)) ∧ ts.length = j ∧ ∀ k r, ts[k]? = some r → ∃ f, fs7[k]? = some f ∧ Fr H' r (av f).1 (av f).2 140) ⟨same_upd nD, [], upd_same, rfl, fun j r h => no_get h⟩ (fun j H' _ hP => SqL.of (hP.1 _ _ (s8 _ _ eu))) (fun j x H9 hx hP => ?_) (fun H9 hP => ?_)
      · obtain ⟨s9, ts, eD, lt, gt⟩ := hP
        obtain ⟨r, hr, rfl⟩ := ref_get hx
        obtain ⟨f, hf, Ff⟩ := gu j r hr
        have hj := lt_of_get hf
        have Ff9 := (Ff.same s8).same s9
        refine ⟨rfl, ?_⟩
        unfold tYes
        refine iteT ?_
        refine ⟨_, rfl, _, rfl, _, _, rfl, .inl (SqL.of (s9 _ _ el8)), ?_⟩
        rw [rlen]
        refine ⟨ints2 _ _, fun t nt => ?_⟩
        have st := same_upd (o := .tup [.int 1, .int (vss.length : Int)]) nt
        have mB : ((vss.length : Nat) : Int).natAbs < 2 ^ 3 := by omega
        have T9 : Fr (upd H9 t (.tup [.int 1, .int (vss.length : Int)])) t 1 (vss.length : Int) 140 := ⟨upd_same, by omega, by decide, up_pow mB (by decide)⟩
        refine ⟨r, t, f.1, f.2, 1, (vss.length : Int), rfl, (Ff9.same st).up (by decide), T9, fun c nc => ?_⟩
        have sc := same_upd (o := .tup [.int (av f).1, .int (av f).2]) nc
        have eDt := st _ _ eD
        have Dc : D ≠ c := ne_of_none eDt nc
        refine ⟨_, sc _ _ eDt, by rw [List.length_map]; exact small1000 (by omega), ?_, ts ++ [c], by rw [upd_same, List.map_append]; rfl, by rw [List.length_append, lt]; rfl, fun k r' hr' => ?_⟩
        · intro y o hy
          have : y ≠ D := ne_of_none hy nD
          rw [upd_ne this]
          exact sc _ _ (st _ _ (s9 _ _ hy))
        · rcases app_get hr' with hr' | ⟨hk, rfl⟩
          · obtain ⟨f', a1, a3⟩ := gt k r' hr'
            exact ⟨f', a1, by rw [upd_ne (ne_of a3.1 eD (fun z => nomatch z))]; exact sc _ _ (st _ _ a3.1), a3.2⟩
          · have hk' : k = j := by omega
            subst hk'
            have pos : 0 < f.2 * (vss.length : Int) := Int.mul_pos Ff.2.1 (by omega)
            have mk := Fr.mk (H := upd H9 t (.tup [.int 1, .int (vss.length : Int)])) (p := r') (a := f.1 * 1) pos (B := 140) (by rw [Int.mul_one]; exact up_pow Ff.2.2.1 (by decide)) (up_pow (mul_pow Ff.2.2.2 mB) (by decide))
            exact ⟨f, hf, by rw [upd_ne Dc.symm]; exact mk.1, mk.2⟩
      · obtain ⟨s9, ts, eD, lt, gt⟩ := hP
        rw [List.length_map, lu] at lt
        have avp : ∀ f ∈ fs7, 0 < f.2 * (vss.length : Int) := fun f hf => Int.mul_pos (low7 f hf).1 (by omega)
        have low9 : ∀ f ∈ fs7.map av, Low f := fun f' h => by
          obtain ⟨f, hf, rfl⟩ := List.mem_map.mp h
          exact low_fr (avp f hf)
        refine ⟨D, fs7.map av, 30, rfl, ⟨ts, eD, by rw [List.length_map]; exact lt, fun k r hr => ?_⟩, low9, fun f' h => ?_, fun f' h => ?_, by rw [List.length_map, l7]; omega, by rw [List.length_map, l7]; omega, fun H10 r10 s10 R10 => ?_⟩
        · obtain ⟨f, a1, a3⟩ := gt k r hr
          exact ⟨av f, by rw [List.getElem?_map, a1]; rfl, a3.up (by decide)⟩
        · obtain ⟨f, hf, rfl⟩ := List.mem_map.mp h
          have := avp f hf
          exact Nat.lt_of_le_of_lt (frD_abs (by omega)) (up_pow (mul_pow (d7 f hf) (show ((vss.length : Nat) : Int).natAbs < 2 ^ 3 by omega)) (by decide))
        · obtain ⟨f, hf, rfl⟩ := List.mem_map.mp h
          have := avp f hf
          exact Nat.lt_of_le_of_lt (frN_abs (by omega)) (by rw [Int.mul_one]; exact up_pow (n7 f hf) (by decide))
        · have ms := mid_same (n := dn + 2) (fs := fs7.map av) m1 vn head (by rw [List.length_map, l7]) low9 (fun j f' h => by
            rw [List.getElem?_map] at h
            cases e : fs7[j]? with
            | none => rw [e] at h; cases h
            | some f =>
              rw [e] at h
              have e2 := (Option.some.inj h)
              subst e2
              exact avg_step (low7 f (List.mem_of_getElem? e)).1 (sum7 j f e) (fr_cross (avp f (List.mem_of_getElem? e))))
          rw [ms] at R8
          refine ⟨_, _, rfl, vc_alike 1 ((R8.same s9).same s10) R10 (by unfold over1; rw [List.length_cons, List.length_map, List.length_map, l7]; omega), true, rfl, iteF ?_⟩
          exact ⟨_, _, _, rfl, ((P7.same s8).same s9).same s10, ((V7.same s8).same s9).same s10⟩
    intro σ H8 hW
    obtain ⟨y5, y6, y7, rfl, P8, V8⟩ := hW
    clear F7 sum7 V7 P7 s7 V6 P6 F6 el rg rl
    -- weights
    refine ⟨fun σ H' => ∃ (wl : Addr) (ws : List Int), σ = [some (.ref sa), some (.ref p), some (.int ((dn + 1 : Nat) : Int)), y3, some (.ref l), y5, y6, y7, some (.ref wl), none, none, none, none, none, none, none, none] ∧ Pl H' p ∧ VL H' l vss ∧ H' wl = some (.lst (ws.map V.int)) ∧ wl ≠ p ∧ ws.length = vss.length ∧ ∀ x ∈ ws, x.natAbs < 2 ^ 4, ?_, ?_⟩
    · obtain ⟨rs, el, rl, rg⟩ := V8
      refine ⟨_, rfl, l, rfl, ⟨_, SqL.of el⟩, fun D nD => ?_⟩
      refine lc_list (xs := rs.map V.ref) (Dr p H8 D 4) (dr0 P8 nD) (fun i H' _ hW => SqL.of (hW.2.1 _ _ lp el)) (fun i x H9 hx hW => ?_) (fun H9 hW => ?_)
      · have hi := lt_of_get hx
        rw [List.length_map] at hi
        refine ⟨rfl, ?_⟩
        unfold tYes
        refine iteT ?_
        refine ⟨_, rfl, p, _, rfl, by decide, by decide, hW.pt, fun n H10 l10 u10 P10 B10 => ⟨_, _, rfl, rfl, ?_⟩⟩
        obtain ⟨acc, h1, h2, h3⟩ := dr_step (n := n - 4) nD P8 hW B10 P10 (by omega)
        exact ⟨acc, h1, small1000 (by omega), h3⟩
      · have P9 := hW.pt
        obtain ⟨_, K9, ws, e, lw, bw⟩ := hW
        rw [List.length_map, rl] at lw
        exact ⟨D, ws, rfl, P9, VL.kp ⟨rs, el, rl, rg⟩ P8 lp K9, e, ne_pool P8 nD, lw, bw⟩
    intro σ H9 hW
    obtain ⟨wl, ws, rfl, P9, V9, hw9, wp, lw, bw⟩ := hW
    obtain ⟨rs, el, rl, rg⟩ := V9
    have V9 : VL H9 l vss := ⟨rs, el, rl, rg⟩
    have rlen : (rs.map V.ref).length = vss.length := by rw [List.length_map]; exact rl
    -- due
    refine ⟨fun σ H' => ∃ (du : Addr), σ = [some (.ref sa), some (.ref p), some (.int ((dn + 1 : Nat) : Int)), y3, some (.ref l), y5, y6, y7, some (.ref wl), some (.ref du), none, none, none, none, none, none, none] ∧ Same H9 H' ∧ Vc H' du (dueL ws vss (dn + 2)), ?_, ?_⟩
    · have dl : (dueL ws vss (dn + 2)).length = dn + 2 := by unfold dueL; rw [List.length_map, List.length_range]
      refine ⟨_, rfl, _, _, rfl, rfl, _, rfl, by omega, by omega, fun D nD => ?_⟩
      refine lc_range (lo := 0) (n := (((dn + 1 : Nat) : Int) + 1).toNat) (fun j H' => Same H9 H' ∧ H' D = some (.lst (((dueL ws vss (dn + 2)).take j).map V.int))) ⟨same_upd nD, upd_same⟩ (fun j H' hj hP => ?_) (fun H' hP => ?_)
      · obtain ⟨sH, eD⟩ := hP
        have e0 : (0 : Int) + (j : Int) = ((j : Nat) : Int) := Int.zero_add _
        rw [e0]
        have el1 := sH _ _ el
        refine ⟨rfl, ?_⟩
        unfold tYes
        refine iteT ?_
        refine ⟨_, rfl, _, _, rfl, .inl (SqL.of el1), ?_⟩
        rw [rlen]
        refine ⟨_, rfl, by omega, by omega, fun D2 nD2 => ?_⟩
        refine lc_range (lo := 0) (n := ((vss.length : Nat) : Int).toNat) (g := gName 13) (tt := fun _ H Q => Q true H) (te := tOp (rI CMulW fun i j => V.int (i * j)) (tOp (rIxL _) (tVar 8) (tVar 13)) (tOp (rIxT _) (tOp (rIxL _) (tVar 4) (tVar 13)) (tVar 14))) (vs := [13]) (fun k H'' => Same H' H'' ∧ H'' D2 = some (.lst (((rowL ws vss j).take k).map V.int))) ⟨same_upd nD2, upd_same⟩ (fun k H'' hk hP => ?_) (fun H'' hP => ?_)
        · obtain ⟨s2, eD2⟩ := hP
          have e1 : (0 : Int) + (k : Int) = ((k : Nat) : Int) := Int.zero_add _
          rw [e1]
          have hk' : k < vss.length := by omega
          have gw : ws[k]? = some (ws[k]'(by omega)) := List.getElem?_eq_getElem (by omega)
          have gr : rs[k]? = some (rs[k]'(by omega)) := List.getElem?_eq_getElem (by omega)
          obtain ⟨v, hv, V1⟩ := rg k _ gr
          have hvm := List.mem_of_getElem? hv
          have gv : v[j]? = some (v[j]'(by have := vn v hvm; omega)) := List.getElem?_eq_getElem (by have := vn v hvm; omega)
          have sA := sH.trans s2
          refine ⟨rfl, ?_⟩
          try unfold tYes
          refine iteT ?_
          have hg : (rowL ws vss j)[k]? = some (ws[k]'(by omega) * v[j]'(by have := vn v hvm; omega)) := by
            unfold rowL
            rw [List.getElem?_map, List.getElem?_range hk']
            simp only [Option.map_some, List.getD_eq_getElem?_getD]
            rw [gw, hv]
            simp only [Option.getD_some]
            rw [gv]
            rfl
          refine ⟨_, rfl, _, rfl, _, _, _, _, rfl, rfl, SqL.of (sA _ _ hw9), atI_nat (get_map gw), _, rfl, _, rfl, _, _, _, _, rfl, rfl, SqL.of (s2 _ _ el1), atI_nat (get_ref gr), _, rfl, _, _, _, _, rfl, rfl, SqT.of (V1.same sA), atI_nat (get_map gv), _, _, rfl, rfl, cmul (bw _ (List.mem_of_getElem? gw)) (vB5 v hvm _ (List.mem_of_getElem? gv)), _, eD2, ?_, ?_, ?_⟩
          · rw [List.length_map, List.length_take]
            exact Nat.lt_of_le_of_lt (Nat.min_le_left _ _) (small1000 (by omega))
          · intro y o hy
            have : y ≠ D2 := ne_of_none hy nD2
            rw [upd_ne this]
            exact s2 _ _ hy
          · rw [upd_same, take_get hg, List.map_append]
            rfl
        · obtain ⟨s2, eD2⟩ := hP
          have e3 : (rowL ws vss j).take ((vss.length : Nat) : Int).toNat = rowL ws vss j := List.take_of_length_le (by unfold rowL; rw [List.length_map, List.length_range]; omega)
          rw [e3] at eD2
          have hg : (dueL ws vss (dn + 2))[j]? = some (rowL ws vss j).sum := by
            unfold dueL
            rw [List.getElem?_map, List.getElem?_range (by omega), rowL_sum]
            rfl
          refine ⟨D2, _, rfl, SqL.of eD2, _, s2 _ _ eD, ?_, ?_, ?_⟩
          · rw [List.length_map, List.length_take]
            exact Nat.lt_of_le_of_lt (Nat.min_le_left _ _) (small1000 (by omega))
          · intro y o hy
            have : y ≠ D := ne_of_none hy nD
            rw [upd_ne this]
            exact s2 _ _ (sH _ _ hy)
          · rw [upd_same, take_get hg, List.map_append]
            rfl
      · obtain ⟨sH, eD⟩ := hP
        have e3 : (dueL ws vss (dn + 2)).take (((dn + 1 : Nat) : Int) + 1).toNat = dueL ws vss (dn + 2) := List.take_of_length_le (by omega)
        rw [e3] at eD
        exact ⟨D, _, rfl, .inl ⟨SqL.of eD, fun t nt => ⟨t, rfl, sH.trans (same_upd nt), upd_same⟩⟩⟩
    intro σ H10 hW
    obtain ⟨du, rfl, s10, D10⟩ := hW
    have ws100 : ∀ x ∈ ws, x.natAbs < 2 ^ 100 := fun x hx => up_pow (bw x hx) (by decide)
    have vs100 : ∀ v ∈ vss, ∀ x ∈ v, x.natAbs < 2 ^ 100 := fun v hv x hx => up_pow (vB5 v hv x hx) (by decide)
    have dl : (dueL ws vss (dn + 2)).length = dn + 2 := by unfold dueL; rw [List.length_map, List.length_range]
    -- combined
    refine ⟨fun σ H' => ∃ (y9 : Option V), σ = [some (.ref sa), some (.ref p), some (.int ((dn + 1 : Nat) : Int)), y3, some (.ref l), y5, y6, y7, some (.ref wl), y9, none, none, none, none, none, none, none] ∧ Same H9 H', ?_, ?_⟩
    · refine ⟨_, rfl, _, rfl, false, wl, l, ws, vss, dn + 2, rfl, s10 _ _ hw9, V9.same s10, lw, m1, by omega, vn, by omega, ws100, vs100, fun H11 r11 s11 R11 => ⟨_, rfl, ?_⟩⟩
      rw [due_comb lw vn] at R11
      refine ⟨_, _, rfl, vc_alike 1 R11 (D10.same s11) (by omega), true, rfl, iteF ?_⟩
      have sB := s10.trans s11
      refine ⟨_, rfl, wl, _, rfl, .inl ⟨SqL.of (sB _ _ hw9), fun t nt => ⟨_, rfl, true, t, l, ws, vss, dn + 2, rfl, upd_same, (V9.same sB).same (same_upd nt), lw, m1, by omega, vn, by omega, ws100, vs100, fun H12 r12 s12 R12 => ⟨_, rfl, ?_⟩⟩⟩⟩
      rw [due_comb lw vn] at R12
      have sC := (sB.trans (same_upd (o := .tup (ws.map V.int)) nt)).trans s12
      refine ⟨_, _, rfl, vc_alike 1 R12 (((D10.same s11).same (same_upd nt)).same s12) (by omega), true, rfl, iteF ?_⟩
      exact ⟨_, rfl, sC⟩
    intro σ H11 hW
    obtain ⟨y9, rfl, s11⟩ := hW
    have P11 := P9.same s11
    have V11 := V9.same s11
    -- scale
    refine ⟨_, rfl, p, _, rfl, by decide, by decide, P11, fun sv H12 l12 u12 P12 B12 => ⟨_, _, rfl, rfl, ?_⟩⟩
    have V12 := VL.kp V11 P11 lp B12.keep
    -- row
    refine ⟨fun σ H' => ∃ (rw : Addr) (ms : List Int), σ = [some (.ref sa), some (.ref p), some (.int ((dn + 1 : Nat) : Int)), some (.ref rw), some (.ref l), y5, y6, y7, some (.ref wl), y9, some (.int (1 + sv)), none, none, none, none, none, none] ∧ Vc H' rw ms ∧ ms.length = dn + 2 ∧ (∀ x ∈ ms, x.natAbs < 2 ^ 10) ∧ VL H' l vss, ?_, ?_⟩
    · refine ⟨_, rfl, _, _, rfl, rfl, _, rfl, by omega, by omega, fun D nD => ?_⟩
      refine lc_range (lo := 0) (n := (((dn + 1 : Nat) : Int) + 1).toNat) (Dr p H12 D 10) (dr0 P12 nD) (fun j H13 hj hW => ?_) (fun H13 hW => ?_)
      · refine ⟨rfl, ?_⟩
        unfold tYes
        refine iteT ?_
        refine ⟨_, rfl, _, rfl, p, _, rfl, by decide, by decide, hW.pt, fun n H14 l14 u14 P14 B14 => ⟨_, _, rfl, rfl, ?_⟩⟩
        have a1 : (1 + sv).natAbs < 2 ^ 3 := by omega
        have a2 : (n - 3).natAbs < 2 ^ 3 := by omega
        refine ⟨_, _, rfl, rfl, cmul a1 a2, ?_⟩
        refine ⟨_, rfl, p, _, rfl, by decide, by decide, P14, fun n2 H15 l15 u15 P15 B15 => ⟨_, _, rfl, rfl, .inr ⟨_, rfl, ?_⟩⟩⟩
        have a3 : (if decide (0 < n2) = true then (1 : Int) else 0).natAbs < 2 ^ 1 := by split <;> decide
        refine ⟨_, _, rfl, rfl, cmul (mul_pow a1 a2) a3, ?_⟩
        obtain ⟨acc, h1, h2, h3⟩ := dr_step (n := (1 + sv) * (n - 3) * (if decide (0 < n2) = true then (1 : Int) else 0)) nD P12 hW (B14.trans B15) P15 (up_pow (mul_pow (mul_pow a1 a2) a3) (by decide))
        exact ⟨acc, h1, small1000 (by omega), h3⟩
      · obtain ⟨_, K13, ms, e, lm, bm⟩ := hW
        exact ⟨D, _, rfl, .inl ⟨SqL.of e, fun t nt => ⟨t, ms, rfl, upd_same, by omega, bm, (VL.kp V12 P12 lp K13).same (same_upd nt)⟩⟩⟩
    intro σ H13 hW
    obtain ⟨rw, ms, rfl, W13, lm, bm, V13⟩ := hW
    have bm299 : ∀ x ∈ ms, x.natAbs < 2 ^ 299 := fun x hx => up_pow (bm x hx) (by decide)
    have dropl : (ms.drop 1).length = dn + 1 := by rw [List.length_drop, lm]; rfl
    have eqs : ∀ (Hq : Hp) (r z : Addr), Vc Hq r (ms.drop 1) → Vc Hq z (List.replicate (dn + 1) 0) → ∀ (Q' : VK), Q' (.bl (decide (ms.drop 1 = List.replicate (dn + 1) 0))) Hq → rEqD K (.ref r) (.ref z) Hq Q' := fun Hq r z h1 h2 Q' hq =>
      ⟨_, _, .tup (SqT.of h1) (dp_ints _), .tup (SqT.of h2) (dp_ints _), shaped_ints _ (by omega), shaped_ints _ (by rw [List.length_replicate]; omega), by rw [PyData.eqv, eqv_ints]; exact hq⟩
    -- try
    refine ⟨fun σ H' => ∃ (to : Addr), σ = [some (.ref sa), some (.ref p), some (.int ((dn + 1 : Nat) : Int)), some (.ref rw), some (.ref l), y5, y6, y7, some (.ref wl), y9, some (.int (1 + sv)), some (.ref to), none, none, none, none, none] ∧ Vc H' rw ms ∧ VL H' l vss ∧ Vc H' to (prim ms) ∧ ((ms.drop 1).any fun n => n != 0) = true, ?_, ?_⟩
    · refine ⟨_, rfl, rw, ms, rfl, W13, by omega, bm299, fun hany H14 to s14 R14 => ?_, fun hany H14 s14 => ?_⟩
      · exact ⟨to, rfl, W13.same s14, V13.same s14, R14, hany⟩
      · refine ⟨true, E_BadInequality.em, fun _ e ne => ?_, (fun z => nomatch z)⟩
        have hrep : ms.drop 1 = List.replicate (dn + 1) 0 := by
          have := (any_rep (ms.drop 1)).mp hany
          rwa [dropl] at this
        refine ⟨_, rfl, 1, rfl, ?_⟩
        unfold tNoPart
        refine sl_h (W13.same s14) fun H15 r15 s15 hr15 => ?_
        rw [show (1 : Int) = ((1 : Nat) : Int) from rfl, cut_drop, ← List.map_drop] at hr15
        refine ⟨Nat.le_of_lt (small1000 (show 1 ≤ 1000 by decide)), fun z nz => ⟨_, rfl, ?_⟩⟩
        refine rep_h upd_same (by omega) (by omega) fun H16 b16 s16 Z16 => ?_
        refine eqs _ _ _ (s16 _ _ ((same_upd nz) _ _ hr15)) Z16 _ ?_
        rw [decide_eq_true hrep]
        refine ⟨true, rfl, iteT ?_⟩
        refine ⟨_, rfl, rfl, rfl, _, _, _, rfl, fun u hu => hu, I1, false, rfl, ?_⟩
        exact q _
    intro σ H14 hW
    obtain ⟨to, rfl, W14, V14, T14, hany⟩ := hW
    -- row[1:] == (0,) * d
    refine ⟨_, rfl, 1, rfl, ?_⟩
    unfold tNoPart
    refine sl_h W14 fun H15 r15 s15 hr15 => ?_
    rw [show (1 : Int) = ((1 : Nat) : Int) from rfl, cut_drop, ← List.map_drop] at hr15
    refine ⟨Nat.le_of_lt (small1000 (show 1 ≤ 1000 by decide)), fun z nz => ⟨_, rfl, ?_⟩⟩
    refine rep_h upd_same (by omega) (by omega) fun H16 b16 s16 Z16 => ?_
    have sz := same_upd (o := .tup [.int 0]) nz
    refine eqs _ _ _ (s16 _ _ (sz _ _ hr15)) Z16 _ ?_
    have hne : ms.drop 1 ≠ List.replicate (dn + 1) 0 := fun e => by
      have := (any_rep (ms.drop 1)).mpr (by rw [dropl]; exact e)
      rw [this] at hany
      cases hany
    rw [decide_eq_false hne]
    have sA := (s15.trans sz).trans s16
    refine ⟨false, rfl, iteF ?_⟩
    refine ⟨_, rfl, _, rfl, true, rw, ms, rfl, W14.same sA, by omega, bm299, fun H17 r17 s17 R17 => ?_⟩
    refine ⟨_, _, rfl, vc_alike 1 ((T14.same sA).same s17) R17 (by rw [prim_len]; omega), true, rfl, iteF ?_⟩
    have T17 := (T14.same sA).same s17
    have V17 := (V14.same sA).same s17
    have pl : (prim ms).length = dn + 2 := by rw [prim_len, lm]
    have pb : ∀ x ∈ prim ms, x.natAbs < 2 ^ 10 := fun x hx => by
      have := prim_small (B := 1023) (fun m hm => by have := bm m hm; omega) x hx
      omega
    -- reversed
    refine ⟨_, rfl, to, prim ms, rfl, T17, by omega, fun H18 r18 s18 R18 => ?_⟩
    have T18 := T17.same s18
    refine ⟨_, rfl, to, rfl, ⟨_, SqT.of T18⟩, fun D nD => ?_⟩
    refine lc_tup (xs := (prim ms).map V.int) (fun i H' => Same H18 H' ∧ H' D = some (.lst ((((prim ms).map fun n => -n).take i).map V.int))) ⟨same_upd nD, upd_same⟩ (fun i H' _ hP => SqT.of (hP.1 _ _ T18)) (fun i x H' hx hP => ?_) (fun H' hP => ?_)
    · obtain ⟨n, hn, rfl⟩ := map_get hx
      have hi := lt_of_get hn
      refine ⟨rfl, ?_⟩
      unfold tYes
      refine iteT ?_
      have hg : ((prim ms).map fun n => -n)[i]? = some (-n) := by
        rw [List.getElem?_map, hn]
        rfl
      refine ⟨_, rfl, _, rfl, _, hP.2, ?_, ?_, ?_⟩
      · rw [List.length_map, List.length_take]
        exact Nat.lt_of_le_of_lt (Nat.min_le_left _ _) (small1000 (by omega))
      · intro x o hxo
        have : x ≠ D := ne_of_none hxo nD
        rw [upd_ne this]
        exact hP.1 _ _ hxo
      · rw [upd_same, take_get hg, List.map_append]
        rfl
    obtain ⟨s19, eD⟩ := hP
    rw [List.length_map, show (prim ms).length = ((prim ms).map fun n => -n).length by rw [List.length_map], List.take_length] at eD
    refine ⟨D, _, rfl, .inl ⟨SqL.of eD, fun t nt => ?_⟩⟩
    have s20 := s19.trans (same_upd (o := .tup (((prim ms).map fun n => -n).map V.int)) nt)
    refine ⟨_, _, rfl, vc_alike 1 (R18.same s20) upd_same (by rw [List.length_map]; omega), true, rfl, iteF ?_⟩
    have T20 := T18.same s20
    have V20 := (V17.same s18).same s20
    clear eD
    generalize upd H' t (.tup (((prim ms).map fun n => -n).map V.int)) = H20 at *
    -- value_at
    obtain ⟨rs2, el2, rl2, rg2⟩ := V20
    have gr : rs2[0]? = some (rs2[0]'(by omega)) := List.getElem?_eq_getElem (by omega)
    obtain ⟨v, hv, V1⟩ := rg2 0 _ gr
    have hvm := List.mem_of_getElem? hv
    have V1' : Vc H20 (rs2[0]'(by omega)) (v.headD 1 :: v.drop 1) := by rw [← cons v hvm]; exact V1
    have xl : (v.drop 1).length = dn + 1 := by rw [List.length_drop, vn v hvm]; rfl
    have pb100 : ∀ x ∈ prim ms, x.natAbs < 2 ^ 100 := fun x hx => up_pow (pb x hx) (by decide)
    have vb100 : ∀ x ∈ v.headD 1 :: v.drop 1, x.natAbs < 2 ^ 100 := fun x hx => by
      rw [← cons v hvm] at hx
      exact vs100 v hvm x hx
    refine ⟨_, rfl, _, rfl, _, _, _, _, rfl, rfl, SqL.of el2, atI_nat (j := 0) (get_ref gr), to, _, prim ms, v.headD 1, v.drop 1, rfl, T20, V1', vh v hvm, by omega, by omega, pb100, vb100, fun H21 r21 s21 R21 => ?_⟩
    refine ⟨_, rfl, _, rfl, _, _, _, _, rfl, rfl, SqL.of (s21 _ _ el2), atI_nat (j := 0) (get_ref gr), to, _, prim ms, v.headD 1 :: v.drop 1, rfl, T20.same s21, V1'.same s21, by rw [List.length_cons]; omega, by omega, fun x hx => up_pow (pb100 x hx) (by decide), fun x hx => up_pow (vb100 x hx) (by decide), fun H22 s22 => ?_⟩
    have s2122 := s21.trans s22
    have lim := dotz_lim (prim ms) (v.headD 1 :: v.drop 1) pb100 vb100
    have lim2 : (dotz (prim ms) (v.headD 1 :: v.drop 1)).sum.natAbs < 2 ^ 299 := by
      have h1 : (prim ms).length * 2 ^ 200 ≤ 100 * 2 ^ 200 := Nat.mul_le_mul_right _ (by omega)
      exact Nat.lt_of_le_of_lt (Nat.le_trans lim h1) (by decide)
    refine ⟨_, rfl, _, _, _, _, rfl, rfl, SqL.of (s2122 _ _ el2), atI_nat (j := 0) (get_ref gr), _, _, _, _, rfl, rfl, SqT.of (V1'.same s2122), atI_nat (j := 0) rfl, _, _, rfl, vh v hvm, lim2, up_pow (vb100 _ List.mem_cons_self) (by decide), fun t2 nt2 => ?_⟩
    exact ⟨_, _, rfl, pair_alike 1 ((same_upd nt2) _ _ (s22 _ _ R21)) upd_same rfl rfl, q _⟩

end
/-! ### what the top has written -/
theorem all_mk {l : PySem.W.OpenLaw} {w : World} {K : PySem.W.Frag} {h : Heap} {mg : Str → Option Value} {fa f__law_same f__law_gcd f__law_spread f__law_draw f__law_pool f_common_divisor f_primitive f__law_frac f_fraction f__law_prim f__law_dot f_dot f__law_point f__law_coordinates f_coordinates f__law_of_coordinates f__law_add f__law_mul f__law_some_frac f_made_point f_made_inequality f_value_at f_combined f_with_common_first f_middle f_reversed_inequality f_law D_BadInequality D_BadNumber : Addr} (X : K.In h) (G : h.Ns mainGlobals mg) (hfa : mg "law" = some (.ref fa))
    {od__law_same an__law_same od__law_gcd an__law_gcd od__law_spread an__law_spread od__law_draw an__law_draw od__law_pool an__law_pool od_common_divisor an_common_divisor od_primitive an_primitive od__law_frac an__law_frac od_fraction an_fraction od__law_prim an__law_prim od__law_dot an__law_dot od_dot an_dot od__law_point an__law_point od__law_coordinates an__law_coordinates od_coordinates an_coordinates od__law_of_coordinates an__law_of_coordinates od__law_add an__law_add od__law_mul an__law_mul od__law_some_frac an__law_some_frac od_made_point an_made_point od_made_inequality an_made_inequality od_value_at an_value_at od_combined an_combined od_with_common_first an_with_common_first od_middle an_middle od_reversed_inequality an_reversed_inequality od_law an_law : Option Addr} {sl__law_same sl__law_gcd sl__law_spread sl__law_draw sl__law_pool sl_common_divisor sl_primitive sl__law_frac sl_fraction sl__law_prim sl__law_dot sl_dot sl__law_point sl__law_coordinates sl_coordinates sl__law_of_coordinates sl__law_add sl__law_mul sl__law_some_frac sl_made_point sl_made_inequality sl_value_at sl_combined sl_with_common_first sl_middle sl_reversed_inequality sl_law : Array (Option Value)} {oc__law_same kV__law_same dc__law_same pm__law_same cd__law_same ct__law_same oc__law_gcd kV__law_gcd dc__law_gcd pm__law_gcd cd__law_gcd ct__law_gcd oc__law_spread kV__law_spread dc__law_spread pm__law_spread cd__law_spread ct__law_spread oc__law_draw kV__law_draw dc__law_draw pm__law_draw cd__law_draw ct__law_draw oc__law_pool kV__law_pool dc__law_pool pm__law_pool cd__law_pool ct__law_pool oc_common_divisor kV_common_divisor dc_common_divisor pm_common_divisor cd_common_divisor ct_common_divisor oc_primitive kV_primitive dc_primitive pm_primitive cd_primitive ct_primitive oc__law_frac kV__law_frac dc__law_frac pm__law_frac cd__law_frac ct__law_frac oc_fraction kV_fraction dc_fraction pm_fraction cd_fraction ct_fraction oc__law_prim kV__law_prim dc__law_prim pm__law_prim cd__law_prim ct__law_prim oc__law_dot kV__law_dot dc__law_dot pm__law_dot cd__law_dot ct__law_dot oc_dot kV_dot dc_dot pm_dot cd_dot ct_dot oc__law_point kV__law_point dc__law_point pm__law_point cd__law_point ct__law_point oc__law_coordinates kV__law_coordinates dc__law_coordinates pm__law_coordinates cd__law_coordinates ct__law_coordinates oc_coordinates kV_coordinates dc_coordinates pm_coordinates cd_coordinates ct_coordinates oc__law_of_coordinates kV__law_of_coordinates dc__law_of_coordinates pm__law_of_coordinates cd__law_of_coordinates ct__law_of_coordinates oc__law_add kV__law_add dc__law_add pm__law_add cd__law_add ct__law_add oc__law_mul kV__law_mul dc__law_mul pm__law_mul cd__law_mul ct__law_mul oc__law_some_frac kV__law_some_frac dc__law_some_frac pm__law_some_frac cd__law_some_frac ct__law_some_frac oc_made_point kV_made_point dc_made_point pm_made_point cd_made_point ct_made_point oc_made_inequality kV_made_inequality dc_made_inequality pm_made_inequality cd_made_inequality ct_made_inequality oc_value_at kV_value_at dc_value_at pm_value_at cd_value_at ct_value_at oc_combined kV_combined dc_combined pm_combined cd_combined ct_combined oc_with_common_first kV_with_common_first dc_with_common_first pm_with_common_first cd_with_common_first ct_with_common_first oc_middle kV_middle dc_middle pm_middle cd_middle ct_middle oc_reversed_inequality kV_reversed_inequality dc_reversed_inequality pm_reversed_inequality cd_reversed_inequality ct_reversed_inequality oc_law kV_law dc_law pm_law cd_law ct_law : Value}
    (a__law_same : PySem.W.nsIn K mainGlobals "_law_same" = some (some (.ref f__law_same))) (l__law_same : K.lookup f__law_same = some ⟨oc__law_same, od__law_same, .func (PySem.W.fnOf "_law_same" "_law_same" (defArgs s__law_same) (defBody s__law_same) (defScope s__law_same) .none kV__law_same dc__law_same pm__law_same an__law_same cd__law_same ct__law_same), sl__law_same⟩) (c__law_same : PySem.W.codeIn K cd__law_same "_law_same" = true) (k__law_same : PySem.W.keepIn K (.ref f__law_same) = true)
    (a__law_gcd : PySem.W.nsIn K mainGlobals "_law_gcd" = some (some (.ref f__law_gcd))) (l__law_gcd : K.lookup f__law_gcd = some ⟨oc__law_gcd, od__law_gcd, .func (PySem.W.fnOf "_law_gcd" "_law_gcd" (defArgs s__law_gcd) (defBody s__law_gcd) (defScope s__law_gcd) .none kV__law_gcd dc__law_gcd pm__law_gcd an__law_gcd cd__law_gcd ct__law_gcd), sl__law_gcd⟩) (c__law_gcd : PySem.W.codeIn K cd__law_gcd "_law_gcd" = true) (k__law_gcd : PySem.W.keepIn K (.ref f__law_gcd) = true)
    (a__law_spread : PySem.W.nsIn K mainGlobals "_law_spread" = some (some (.ref f__law_spread))) (l__law_spread : K.lookup f__law_spread = some ⟨oc__law_spread, od__law_spread, .func (PySem.W.fnOf "_law_spread" "_law_spread" (defArgs s__law_spread) (defBody s__law_spread) (defScope s__law_spread) .none kV__law_spread dc__law_spread pm__law_spread an__law_spread cd__law_spread ct__law_spread), sl__law_spread⟩) (c__law_spread : PySem.W.codeIn K cd__law_spread "_law_spread" = true) (k__law_spread : PySem.W.keepIn K (.ref f__law_spread) = true)
    (a__law_draw : PySem.W.nsIn K mainGlobals "_law_draw" = some (some (.ref f__law_draw))) (l__law_draw : K.lookup f__law_draw = some ⟨oc__law_draw, od__law_draw, .func (PySem.W.fnOf "_law_draw" "_law_draw" (defArgs s__law_draw) (defBody s__law_draw) (defScope s__law_draw) .none kV__law_draw dc__law_draw pm__law_draw an__law_draw cd__law_draw ct__law_draw), sl__law_draw⟩) (c__law_draw : PySem.W.codeIn K cd__law_draw "_law_draw" = true) (k__law_draw : PySem.W.keepIn K (.ref f__law_draw) = true)
    (a__law_pool : PySem.W.nsIn K mainGlobals "_law_pool" = some (some (.ref f__law_pool))) (l__law_pool : K.lookup f__law_pool = some ⟨oc__law_pool, od__law_pool, .func (PySem.W.fnOf "_law_pool" "_law_pool" (defArgs s__law_pool) (defBody s__law_pool) (defScope s__law_pool) .none kV__law_pool dc__law_pool pm__law_pool an__law_pool cd__law_pool ct__law_pool), sl__law_pool⟩) (c__law_pool : PySem.W.codeIn K cd__law_pool "_law_pool" = true) (k__law_pool : PySem.W.keepIn K (.ref f__law_pool) = true)
    (a_common_divisor : PySem.W.nsIn K mainGlobals "common_divisor" = some (some (.ref f_common_divisor))) (l_common_divisor : K.lookup f_common_divisor = some ⟨oc_common_divisor, od_common_divisor, .func (PySem.W.fnOf "common_divisor" "common_divisor" (defArgs s_common_divisor) (defBody s_common_divisor) (defScope s_common_divisor) .none kV_common_divisor dc_common_divisor pm_common_divisor an_common_divisor cd_common_divisor ct_common_divisor), sl_common_divisor⟩) (c_common_divisor : PySem.W.codeIn K cd_common_divisor "common_divisor" = true) (k_common_divisor : PySem.W.keepIn K (.ref f_common_divisor) = true)
    (a_primitive : PySem.W.nsIn K mainGlobals "primitive" = some (some (.ref f_primitive))) (l_primitive : K.lookup f_primitive = some ⟨oc_primitive, od_primitive, .func (PySem.W.fnOf "primitive" "primitive" (defArgs s_primitive) (defBody s_primitive) (defScope s_primitive) .none kV_primitive dc_primitive pm_primitive an_primitive cd_primitive ct_primitive), sl_primitive⟩) (c_primitive : PySem.W.codeIn K cd_primitive "primitive" = true) (k_primitive : PySem.W.keepIn K (.ref f_primitive) = true)
    (a__law_frac : PySem.W.nsIn K mainGlobals "_law_frac" = some (some (.ref f__law_frac))) (l__law_frac : K.lookup f__law_frac = some ⟨oc__law_frac, od__law_frac, .func (PySem.W.fnOf "_law_frac" "_law_frac" (defArgs s__law_frac) (defBody s__law_frac) (defScope s__law_frac) .none kV__law_frac dc__law_frac pm__law_frac an__law_frac cd__law_frac ct__law_frac), sl__law_frac⟩) (c__law_frac : PySem.W.codeIn K cd__law_frac "_law_frac" = true) (k__law_frac : PySem.W.keepIn K (.ref f__law_frac) = true)
    (a_fraction : PySem.W.nsIn K mainGlobals "fraction" = some (some (.ref f_fraction))) (l_fraction : K.lookup f_fraction = some ⟨oc_fraction, od_fraction, .func (PySem.W.fnOf "fraction" "fraction" (defArgs s_fraction) (defBody s_fraction) (defScope s_fraction) .none kV_fraction dc_fraction pm_fraction an_fraction cd_fraction ct_fraction), sl_fraction⟩) (c_fraction : PySem.W.codeIn K cd_fraction "fraction" = true) (k_fraction : PySem.W.keepIn K (.ref f_fraction) = true)
    (a__law_prim : PySem.W.nsIn K mainGlobals "_law_prim" = some (some (.ref f__law_prim))) (l__law_prim : K.lookup f__law_prim = some ⟨oc__law_prim, od__law_prim, .func (PySem.W.fnOf "_law_prim" "_law_prim" (defArgs s__law_prim) (defBody s__law_prim) (defScope s__law_prim) .none kV__law_prim dc__law_prim pm__law_prim an__law_prim cd__law_prim ct__law_prim), sl__law_prim⟩) (c__law_prim : PySem.W.codeIn K cd__law_prim "_law_prim" = true) (k__law_prim : PySem.W.keepIn K (.ref f__law_prim) = true)
    (a__law_dot : PySem.W.nsIn K mainGlobals "_law_dot" = some (some (.ref f__law_dot))) (l__law_dot : K.lookup f__law_dot = some ⟨oc__law_dot, od__law_dot, .func (PySem.W.fnOf "_law_dot" "_law_dot" (defArgs s__law_dot) (defBody s__law_dot) (defScope s__law_dot) .none kV__law_dot dc__law_dot pm__law_dot an__law_dot cd__law_dot ct__law_dot), sl__law_dot⟩) (c__law_dot : PySem.W.codeIn K cd__law_dot "_law_dot" = true) (k__law_dot : PySem.W.keepIn K (.ref f__law_dot) = true)
    (a_dot : PySem.W.nsIn K mainGlobals "dot" = some (some (.ref f_dot))) (l_dot : K.lookup f_dot = some ⟨oc_dot, od_dot, .func (PySem.W.fnOf "dot" "dot" (defArgs s_dot) (defBody s_dot) (defScope s_dot) .none kV_dot dc_dot pm_dot an_dot cd_dot ct_dot), sl_dot⟩) (c_dot : PySem.W.codeIn K cd_dot "dot" = true) (k_dot : PySem.W.keepIn K (.ref f_dot) = true)
    (a__law_point : PySem.W.nsIn K mainGlobals "_law_point" = some (some (.ref f__law_point))) (l__law_point : K.lookup f__law_point = some ⟨oc__law_point, od__law_point, .func (PySem.W.fnOf "_law_point" "_law_point" (defArgs s__law_point) (defBody s__law_point) (defScope s__law_point) .none kV__law_point dc__law_point pm__law_point an__law_point cd__law_point ct__law_point), sl__law_point⟩) (c__law_point : PySem.W.codeIn K cd__law_point "_law_point" = true) (k__law_point : PySem.W.keepIn K (.ref f__law_point) = true)
    (a__law_coordinates : PySem.W.nsIn K mainGlobals "_law_coordinates" = some (some (.ref f__law_coordinates))) (l__law_coordinates : K.lookup f__law_coordinates = some ⟨oc__law_coordinates, od__law_coordinates, .func (PySem.W.fnOf "_law_coordinates" "_law_coordinates" (defArgs s__law_coordinates) (defBody s__law_coordinates) (defScope s__law_coordinates) .none kV__law_coordinates dc__law_coordinates pm__law_coordinates an__law_coordinates cd__law_coordinates ct__law_coordinates), sl__law_coordinates⟩) (c__law_coordinates : PySem.W.codeIn K cd__law_coordinates "_law_coordinates" = true) (k__law_coordinates : PySem.W.keepIn K (.ref f__law_coordinates) = true)
    (a_coordinates : PySem.W.nsIn K mainGlobals "coordinates" = some (some (.ref f_coordinates))) (l_coordinates : K.lookup f_coordinates = some ⟨oc_coordinates, od_coordinates, .func (PySem.W.fnOf "coordinates" "coordinates" (defArgs s_coordinates) (defBody s_coordinates) (defScope s_coordinates) .none kV_coordinates dc_coordinates pm_coordinates an_coordinates cd_coordinates ct_coordinates), sl_coordinates⟩) (c_coordinates : PySem.W.codeIn K cd_coordinates "coordinates" = true) (k_coordinates : PySem.W.keepIn K (.ref f_coordinates) = true)
    (a__law_of_coordinates : PySem.W.nsIn K mainGlobals "_law_of_coordinates" = some (some (.ref f__law_of_coordinates))) (l__law_of_coordinates : K.lookup f__law_of_coordinates = some ⟨oc__law_of_coordinates, od__law_of_coordinates, .func (PySem.W.fnOf "_law_of_coordinates" "_law_of_coordinates" (defArgs s__law_of_coordinates) (defBody s__law_of_coordinates) (defScope s__law_of_coordinates) .none kV__law_of_coordinates dc__law_of_coordinates pm__law_of_coordinates an__law_of_coordinates cd__law_of_coordinates ct__law_of_coordinates), sl__law_of_coordinates⟩) (c__law_of_coordinates : PySem.W.codeIn K cd__law_of_coordinates "_law_of_coordinates" = true) (k__law_of_coordinates : PySem.W.keepIn K (.ref f__law_of_coordinates) = true)
    (a__law_add : PySem.W.nsIn K mainGlobals "_law_add" = some (some (.ref f__law_add))) (l__law_add : K.lookup f__law_add = some ⟨oc__law_add, od__law_add, .func (PySem.W.fnOf "_law_add" "_law_add" (defArgs s__law_add) (defBody s__law_add) (defScope s__law_add) .none kV__law_add dc__law_add pm__law_add an__law_add cd__law_add ct__law_add), sl__law_add⟩) (c__law_add : PySem.W.codeIn K cd__law_add "_law_add" = true) (k__law_add : PySem.W.keepIn K (.ref f__law_add) = true)
    (a__law_mul : PySem.W.nsIn K mainGlobals "_law_mul" = some (some (.ref f__law_mul))) (l__law_mul : K.lookup f__law_mul = some ⟨oc__law_mul, od__law_mul, .func (PySem.W.fnOf "_law_mul" "_law_mul" (defArgs s__law_mul) (defBody s__law_mul) (defScope s__law_mul) .none kV__law_mul dc__law_mul pm__law_mul an__law_mul cd__law_mul ct__law_mul), sl__law_mul⟩) (c__law_mul : PySem.W.codeIn K cd__law_mul "_law_mul" = true) (k__law_mul : PySem.W.keepIn K (.ref f__law_mul) = true)
    (a__law_some_frac : PySem.W.nsIn K mainGlobals "_law_some_frac" = some (some (.ref f__law_some_frac))) (l__law_some_frac : K.lookup f__law_some_frac = some ⟨oc__law_some_frac, od__law_some_frac, .func (PySem.W.fnOf "_law_some_frac" "_law_some_frac" (defArgs s__law_some_frac) (defBody s__law_some_frac) (defScope s__law_some_frac) .none kV__law_some_frac dc__law_some_frac pm__law_some_frac an__law_some_frac cd__law_some_frac ct__law_some_frac), sl__law_some_frac⟩) (c__law_some_frac : PySem.W.codeIn K cd__law_some_frac "_law_some_frac" = true) (k__law_some_frac : PySem.W.keepIn K (.ref f__law_some_frac) = true)
    (a_made_point : PySem.W.nsIn K mainGlobals "made_point" = some (some (.ref f_made_point))) (l_made_point : K.lookup f_made_point = some ⟨oc_made_point, od_made_point, .func (PySem.W.fnOf "made_point" "made_point" (defArgs s_made_point) (defBody s_made_point) (defScope s_made_point) .none kV_made_point dc_made_point pm_made_point an_made_point cd_made_point ct_made_point), sl_made_point⟩) (c_made_point : PySem.W.codeIn K cd_made_point "made_point" = true) (k_made_point : PySem.W.keepIn K (.ref f_made_point) = true)
    (a_made_inequality : PySem.W.nsIn K mainGlobals "made_inequality" = some (some (.ref f_made_inequality))) (l_made_inequality : K.lookup f_made_inequality = some ⟨oc_made_inequality, od_made_inequality, .func (PySem.W.fnOf "made_inequality" "made_inequality" (defArgs s_made_inequality) (defBody s_made_inequality) (defScope s_made_inequality) .none kV_made_inequality dc_made_inequality pm_made_inequality an_made_inequality cd_made_inequality ct_made_inequality), sl_made_inequality⟩) (c_made_inequality : PySem.W.codeIn K cd_made_inequality "made_inequality" = true) (k_made_inequality : PySem.W.keepIn K (.ref f_made_inequality) = true)
    (a_value_at : PySem.W.nsIn K mainGlobals "value_at" = some (some (.ref f_value_at))) (l_value_at : K.lookup f_value_at = some ⟨oc_value_at, od_value_at, .func (PySem.W.fnOf "value_at" "value_at" (defArgs s_value_at) (defBody s_value_at) (defScope s_value_at) .none kV_value_at dc_value_at pm_value_at an_value_at cd_value_at ct_value_at), sl_value_at⟩) (c_value_at : PySem.W.codeIn K cd_value_at "value_at" = true) (k_value_at : PySem.W.keepIn K (.ref f_value_at) = true)
    (a_combined : PySem.W.nsIn K mainGlobals "combined" = some (some (.ref f_combined))) (l_combined : K.lookup f_combined = some ⟨oc_combined, od_combined, .func (PySem.W.fnOf "combined" "combined" (defArgs s_combined) (defBody s_combined) (defScope s_combined) .none kV_combined dc_combined pm_combined an_combined cd_combined ct_combined), sl_combined⟩) (c_combined : PySem.W.codeIn K cd_combined "combined" = true) (k_combined : PySem.W.keepIn K (.ref f_combined) = true)
    (a_with_common_first : PySem.W.nsIn K mainGlobals "with_common_first" = some (some (.ref f_with_common_first))) (l_with_common_first : K.lookup f_with_common_first = some ⟨oc_with_common_first, od_with_common_first, .func (PySem.W.fnOf "with_common_first" "with_common_first" (defArgs s_with_common_first) (defBody s_with_common_first) (defScope s_with_common_first) .none kV_with_common_first dc_with_common_first pm_with_common_first an_with_common_first cd_with_common_first ct_with_common_first), sl_with_common_first⟩) (c_with_common_first : PySem.W.codeIn K cd_with_common_first "with_common_first" = true) (k_with_common_first : PySem.W.keepIn K (.ref f_with_common_first) = true)
    (a_middle : PySem.W.nsIn K mainGlobals "middle" = some (some (.ref f_middle))) (l_middle : K.lookup f_middle = some ⟨oc_middle, od_middle, .func (PySem.W.fnOf "middle" "middle" (defArgs s_middle) (defBody s_middle) (defScope s_middle) .none kV_middle dc_middle pm_middle an_middle cd_middle ct_middle), sl_middle⟩) (c_middle : PySem.W.codeIn K cd_middle "middle" = true) (k_middle : PySem.W.keepIn K (.ref f_middle) = true)
    (a_reversed_inequality : PySem.W.nsIn K mainGlobals "reversed_inequality" = some (some (.ref f_reversed_inequality))) (l_reversed_inequality : K.lookup f_reversed_inequality = some ⟨oc_reversed_inequality, od_reversed_inequality, .func (PySem.W.fnOf "reversed_inequality" "reversed_inequality" (defArgs s_reversed_inequality) (defBody s_reversed_inequality) (defScope s_reversed_inequality) .none kV_reversed_inequality dc_reversed_inequality pm_reversed_inequality an_reversed_inequality cd_reversed_inequality ct_reversed_inequality), sl_reversed_inequality⟩) (c_reversed_inequality : PySem.W.codeIn K cd_reversed_inequality "reversed_inequality" = true) (k_reversed_inequality : PySem.W.keepIn K (.ref f_reversed_inequality) = true)
    (a_law : PySem.W.nsIn K mainGlobals "law" = some (some (.ref f_law))) (l_law : K.lookup f_law = some ⟨oc_law, od_law, .func (PySem.W.fnOf "law" "law" (defArgs s_law) (defBody s_law) (defScope s_law) .none kV_law dc_law pm_law an_law cd_law ct_law), sl_law⟩) (c_law : PySem.W.codeIn K cd_law "law" = true) (k_law : PySem.W.keepIn K (.ref f_law) = true)
    (eg_BadInequality : PySem.W.nsIn K mainGlobals "BadInequality" = some (some (.ref D_BadInequality))) (ex_BadInequality : PySem.W.excIn K D_BadInequality VE "ValueError.__new__" = true) (ek_BadInequality : PySem.W.keepIn K (.ref D_BadInequality) = true) (eb_BadInequality : PySem.W.subIn K (.ref D_BadInequality) (.type "BaseException") = some true) (et_BadInequality : PySem.W.typeIn K (.ref D_BadInequality) = some (.type "type")) (ed_BadInequality : PySem.W.hasDictIn K D_BadInequality = true) (es_BadInequality : PySem.W.subIn K (.ref D_BadInequality) (.ref D_BadInequality) = some true)
    (eg_BadNumber : PySem.W.nsIn K mainGlobals "BadNumber" = some (some (.ref D_BadNumber)))
    (xg_BadInequality : PySem.W.findIn K (.ref D_BadInequality) "__getattribute__" = some (some (.builtin "BaseException.__getattribute__"))) (xk_BadInequality : PySem.W.findIn K (.ref D_BadInequality) "__getattr__" = some none) (xa_BadInequality : PySem.W.findIn K (.ref D_BadInequality) "__class__" = some (some (.builtin "object.__class__"))) (xn_BadInequality : PySem.W.specialIn K (.builtin "object.__class__") "__get__" = some (some (.builtin "getset_descriptor.__get__"))) (xt_BadInequality : PySem.W.takesIn K (.builtin "object.__class__") = some true) (xm_BadInequality : PySem.W.mroIn K D_BadInequality (.type "object") = some true)
    (kit_BadInequality_BadNumber : PySem.W.kitOne K (.ref D_BadInequality) (.ref D_BadNumber) = some false)
    (z_len : PySem.W.nsIn K mainGlobals "len" = some none) (z_range : PySem.W.nsIn K mainGlobals "range" = some none) (z_int : PySem.W.nsIn K mainGlobals "int" = some none) (z_list : PySem.W.nsIn K mainGlobals "list" = some none) (z_tuple : PySem.W.nsIn K mainGlobals "tuple" = some none) (z_bool : PySem.W.nsIn K mainGlobals "bool" = some none) (z_isinstance : PySem.W.nsIn K mainGlobals "isinstance" = some none) (z_abs : PySem.W.nsIn K mainGlobals "abs" = some none) (z_sum : PySem.W.nsIn K mainGlobals "sum" = some none) (z_zip : PySem.W.nsIn K mainGlobals "zip" = some none) (z_str : PySem.W.nsIn K mainGlobals "str" = some none) (z_any : PySem.W.nsIn K mainGlobals "any" = some none) (z_all : PySem.W.nsIn K mainGlobals "all" = some none)
    (z_gcd : PySem.W.nsIn K mainGlobals "gcd" = some (some (.builtin "math.gcd")))
    (z_lcm : PySem.W.nsIn K mainGlobals "lcm" = some (some (.builtin "math.lcm")))
    : ∃ fd : FuncData, (∀ (s : Shared) (v : Value), BindsTo s fd ⟨[v], []⟩ [("script", v)]) ∧ ∀ base : Heap, K.In base → base.Ns mainGlobals mg → FnOk l.prog w K mg base CX0 4 fa fd ["script"] (spLaw K) := by
  have e := hfa.symm.trans (PySem.W.mg_of X G a_law)
  cases e
  have F__law_same := fun_mk (st := s__law_same) l__law_same c__law_same k__law_same
  have b__law_same := F__law_same.binds (ps := ["actual", "due"]) fun _ _ _ _ _ _ us hl => match us, hl with | [_, _], _ => rfl
  have F__law_gcd := fun_mk (st := s__law_gcd) l__law_gcd c__law_gcd k__law_gcd
  have b__law_gcd := F__law_gcd.binds (ps := ["a", "b"]) fun _ _ _ _ _ _ us hl => match us, hl with | [_, _], _ => rfl
  have F__law_spread := fun_mk (st := s__law_spread) l__law_spread c__law_spread k__law_spread
  have b__law_spread := F__law_spread.binds (ps := ["cell"]) fun _ _ _ _ _ _ us hl => match us, hl with | [_], _ => rfl
  have F__law_draw := fun_mk (st := s__law_draw) l__law_draw c__law_draw k__law_draw
  have b__law_draw := F__law_draw.binds (ps := ["pool", "many"]) fun _ _ _ _ _ _ us hl => match us, hl with | [_, _], _ => rfl
  have F__law_pool := fun_mk (st := s__law_pool) l__law_pool c__law_pool k__law_pool
  have b__law_pool := F__law_pool.binds (ps := ["script"]) fun _ _ _ _ _ _ us hl => match us, hl with | [_], _ => rfl
  have F_common_divisor := fun_mk (st := s_common_divisor) l_common_divisor c_common_divisor k_common_divisor
  have b_common_divisor := F_common_divisor.binds (ps := ["v"]) fun _ _ _ _ _ _ us hl => match us, hl with | [_], _ => rfl
  have F_primitive := fun_mk (st := s_primitive) l_primitive c_primitive k_primitive
  have b_primitive := F_primitive.binds (ps := ["v"]) fun _ _ _ _ _ _ us hl => match us, hl with | [_], _ => rfl
  have F__law_frac := fun_mk (st := s__law_frac) l__law_frac c__law_frac k__law_frac
  have b__law_frac := F__law_frac.binds (ps := ["a", "b"]) fun _ _ _ _ _ _ us hl => match us, hl with | [_, _], _ => rfl
  have F_fraction := fun_mk (st := s_fraction) l_fraction c_fraction k_fraction
  have b_fraction := F_fraction.binds (ps := ["a", "b"]) fun _ _ _ _ _ _ us hl => match us, hl with | [_, _], _ => rfl
  have F__law_prim := fun_mk (st := s__law_prim) l__law_prim c__law_prim k__law_prim
  have b__law_prim := F__law_prim.binds (ps := ["v"]) fun _ _ _ _ _ _ us hl => match us, hl with | [_], _ => rfl
  have F__law_dot := fun_mk (st := s__law_dot) l__law_dot c__law_dot k__law_dot
  have b__law_dot := F__law_dot.binds (ps := ["v", "w"]) fun _ _ _ _ _ _ us hl => match us, hl with | [_, _], _ => rfl
  have F_dot := fun_mk (st := s_dot) l_dot c_dot k_dot
  have b_dot := F_dot.binds (ps := ["v", "w"]) fun _ _ _ _ _ _ us hl => match us, hl with | [_, _], _ => rfl
  have F__law_point := fun_mk (st := s__law_point) l__law_point c__law_point k__law_point
  have b__law_point := F__law_point.binds (ps := ["pool", "d", "most"]) fun _ _ _ _ _ _ us hl => match us, hl with | [_, _, _], _ => rfl
  have F__law_coordinates := fun_mk (st := s__law_coordinates) l__law_coordinates c__law_coordinates k__law_coordinates
  have b__law_coordinates := F__law_coordinates.binds (ps := ["point"]) fun _ _ _ _ _ _ us hl => match us, hl with | [_], _ => rfl
  have F_coordinates := fun_mk (st := s_coordinates) l_coordinates c_coordinates k_coordinates
  have b_coordinates := F_coordinates.binds (ps := ["point"]) fun _ _ _ _ _ _ us hl => match us, hl with | [_], _ => rfl
  have F__law_of_coordinates := fun_mk (st := s__law_of_coordinates) l__law_of_coordinates c__law_of_coordinates k__law_of_coordinates
  have b__law_of_coordinates := F__law_of_coordinates.binds (ps := ["row"]) fun _ _ _ _ _ _ us hl => match us, hl with | [_], _ => rfl
  have F__law_add := fun_mk (st := s__law_add) l__law_add c__law_add k__law_add
  have b__law_add := F__law_add.binds (ps := ["x", "y"]) fun _ _ _ _ _ _ us hl => match us, hl with | [_, _], _ => rfl
  have F__law_mul := fun_mk (st := s__law_mul) l__law_mul c__law_mul k__law_mul
  have b__law_mul := F__law_mul.binds (ps := ["x", "y"]) fun _ _ _ _ _ _ us hl => match us, hl with | [_, _], _ => rfl
  have F__law_some_frac := fun_mk (st := s__law_some_frac) l__law_some_frac c__law_some_frac k__law_some_frac
  have b__law_some_frac := F__law_some_frac.binds (ps := ["pool"]) fun _ _ _ _ _ _ us hl => match us, hl with | [_], _ => rfl
  have F_made_point := fun_mk (st := s_made_point) l_made_point c_made_point k_made_point
  have b_made_point := F_made_point.binds (ps := ["coordinates"]) fun _ _ _ _ _ _ us hl => match us, hl with | [_], _ => rfl
  have F_made_inequality := fun_mk (st := s_made_inequality) l_made_inequality c_made_inequality k_made_inequality
  have b_made_inequality := F_made_inequality.binds (ps := ["row"]) fun _ _ _ _ _ _ us hl => match us, hl with | [_], _ => rfl
  have F_value_at := fun_mk (st := s_value_at) l_value_at c_value_at k_value_at
  have b_value_at := F_value_at.binds (ps := ["inequality", "point"]) fun _ _ _ _ _ _ us hl => match us, hl with | [_, _], _ => rfl
  have F_combined := fun_mk (st := s_combined) l_combined c_combined k_combined
  have b_combined := F_combined.binds (ps := ["weights", "vectors"]) fun _ _ _ _ _ _ us hl => match us, hl with | [_, _], _ => rfl
  have F_with_common_first := fun_mk (st := s_with_common_first) l_with_common_first c_with_common_first k_with_common_first
  have b_with_common_first := F_with_common_first.binds (ps := ["points"]) fun _ _ _ _ _ _ us hl => match us, hl with | [_], _ => rfl
  have F_middle := fun_mk (st := s_middle) l_middle c_middle k_middle
  have b_middle := F_middle.binds (ps := ["points"]) fun _ _ _ _ _ _ us hl => match us, hl with | [_], _ => rfl
  have F_reversed_inequality := fun_mk (st := s_reversed_inequality) l_reversed_inequality c_reversed_inequality k_reversed_inequality
  have b_reversed_inequality := F_reversed_inequality.binds (ps := ["inequality"]) fun _ _ _ _ _ _ us hl => match us, hl with | [_], _ => rfl
  have F_law := fun_mk (st := s_law) l_law c_law k_law
  have Z : Glb mg := ⟨PySem.W.mg_none_of X G z_len, PySem.W.mg_none_of X G z_range, PySem.W.mg_none_of X G z_int, PySem.W.mg_none_of X G z_list, PySem.W.mg_none_of X G z_tuple, PySem.W.mg_none_of X G z_bool, PySem.W.mg_none_of X G z_isinstance, PySem.W.mg_none_of X G z_abs, PySem.W.mg_none_of X G z_sum, PySem.W.mg_none_of X G z_zip, PySem.W.mg_none_of X G z_str, PySem.W.mg_none_of X G z_any, PySem.W.mg_none_of X G z_all, PySem.W.mg_of X G z_gcd, PySem.W.mg_of X G z_lcm⟩
  have E_BadInequality : Er K mg "BadInequality" D_BadInequality := ⟨PySem.W.mg_of X G eg_BadInequality, ex_BadInequality, ek_BadInequality, eb_BadInequality, et_BadInequality, ed_BadInequality, es_BadInequality⟩
  have X_BadInequality : ExcC K D_BadInequality := ⟨xg_BadInequality, xk_BadInequality, eb_BadInequality, ed_BadInequality, xa_BadInequality, xn_BadInequality, xt_BadInequality, xm_BadInequality⟩
  refine ⟨PySem.W.fnOf "law" "law" (defArgs s_law) (defBody s_law) (defScope s_law) .none kV_law dc_law pm_law an_law cd_law ct_law, fun s v => .of_eq rfl, fun base _ _ => ?_⟩
  have S__law_pool_3 : FnOk l.prog w K mg base CX0 3 f__law_pool _ ["script"] (spPool K) := ok_pool (k := 2) F__law_pool Z 
  have C__law_pool_3 : Call l.prog w K mg base 3 "_law_pool" ["script"] (spPool K) := ⟨f__law_pool, _, S__law_pool_3, PySem.W.mg_of X G a__law_pool, F__law_pool.kp, b__law_pool⟩
  have S__law_spread_2 : FnOk l.prog w K mg base CX0 2 f__law_spread _ ["cell"] spSpread := ok_spread (k := 1) F__law_spread Z 
  have C__law_spread_2 : Call l.prog w K mg base 2 "_law_spread" ["cell"] spSpread := ⟨f__law_spread, _, S__law_spread_2, PySem.W.mg_of X G a__law_spread, F__law_spread.kp, b__law_spread⟩
  have S__law_draw_3 : FnOk l.prog w K mg base CX0 3 f__law_draw _ ["pool", "many"] spDraw := ok_draw (k := 2) F__law_draw Z  C__law_spread_2
  have C__law_draw_3 : Call l.prog w K mg base 3 "_law_draw" ["pool", "many"] spDraw := ⟨f__law_draw, _, S__law_draw_3, PySem.W.mg_of X G a__law_draw, F__law_draw.kp, b__law_draw⟩
  have S_same_0_1 := ok_same (P := l.prog) (w := w) (base := base) (k := 0) (n := 0) F__law_same Z (fun m e => absurd e (by omega)) (PySem.W.mg_of X G a__law_same) b__law_same
  have S_same_1_2 := ok_same (P := l.prog) (w := w) (base := base) (k := 1) (n := 1) F__law_same Z (fun m e => by cases e; exact S_same_0_1) (PySem.W.mg_of X G a__law_same) b__law_same
  have S_same_2_3 := ok_same (P := l.prog) (w := w) (base := base) (k := 2) (n := 2) F__law_same Z (fun m e => by cases e; exact S_same_1_2) (PySem.W.mg_of X G a__law_same) b__law_same
  have DS_same_2_3 : Call l.prog w K mg base 3 "_law_same" ["actual", "due"] (spSame 2) := ⟨f__law_same, _, S_same_2_3, PySem.W.mg_of X G a__law_same, F__law_same.kp, b__law_same⟩
  have S__law_spread_1 : FnOk l.prog w K mg base CX0 1 f__law_spread _ ["cell"] spSpread := ok_spread (k := 0) F__law_spread Z 
  have C__law_spread_1 : Call l.prog w K mg base 1 "_law_spread" ["cell"] spSpread := ⟨f__law_spread, _, S__law_spread_1, PySem.W.mg_of X G a__law_spread, F__law_spread.kp, b__law_spread⟩
  have S__law_draw_2 : FnOk l.prog w K mg base CX0 2 f__law_draw _ ["pool", "many"] spDraw := ok_draw (k := 1) F__law_draw Z  C__law_spread_1
  have C__law_draw_2 : Call l.prog w K mg base 2 "_law_draw" ["pool", "many"] spDraw := ⟨f__law_draw, _, S__law_draw_2, PySem.W.mg_of X G a__law_draw, F__law_draw.kp, b__law_draw⟩
  have S__law_gcd_1 : FnOk l.prog w K mg base CX0 1 f__law_gcd _ ["a", "b"] spGcd := ok_gcd (k := 0) F__law_gcd Z 
  have C__law_gcd_1 : Call l.prog w K mg base 1 "_law_gcd" ["a", "b"] spGcd := ⟨f__law_gcd, _, S__law_gcd_1, PySem.W.mg_of X G a__law_gcd, F__law_gcd.kp, b__law_gcd⟩
  have S__law_frac_2 : FnOk l.prog w K mg base CX0 2 f__law_frac _ ["a", "b"] spFr := ok_lfrac (k := 1) F__law_frac Z  C__law_gcd_1
  have C__law_frac_2 : Call l.prog w K mg base 2 "_law_frac" ["a", "b"] spFr := ⟨f__law_frac, _, S__law_frac_2, PySem.W.mg_of X G a__law_frac, F__law_frac.kp, b__law_frac⟩
  have S__law_some_frac_3 : FnOk l.prog w K mg base CX0 3 f__law_some_frac _ ["pool"] spSome := ok_some (k := 2) F__law_some_frac Z  C__law_draw_2 C__law_frac_2
  have C__law_some_frac_3 : Call l.prog w K mg base 3 "_law_some_frac" ["pool"] spSome := ⟨f__law_some_frac, _, S__law_some_frac_3, PySem.W.mg_of X G a__law_some_frac, F__law_some_frac.kp, b__law_some_frac⟩
  have S__law_gcd_2 : FnOk l.prog w K mg base CX0 2 f__law_gcd _ ["a", "b"] spGcd := ok_gcd (k := 1) F__law_gcd Z 
  have C__law_gcd_2 : Call l.prog w K mg base 2 "_law_gcd" ["a", "b"] spGcd := ⟨f__law_gcd, _, S__law_gcd_2, PySem.W.mg_of X G a__law_gcd, F__law_gcd.kp, b__law_gcd⟩
  have S__law_frac_3 : FnOk l.prog w K mg base CX0 3 f__law_frac _ ["a", "b"] spFr := ok_lfrac (k := 2) F__law_frac Z  C__law_gcd_2
  have C__law_frac_3 : Call l.prog w K mg base 3 "_law_frac" ["a", "b"] spFr := ⟨f__law_frac, _, S__law_frac_3, PySem.W.mg_of X G a__law_frac, F__law_frac.kp, b__law_frac⟩
  have S__law_prim_3 : FnOk l.prog w K mg base CX0 3 f__law_prim _ ["v"] spPrimK := ok_lprimK (k := 2) F__law_prim Z  C__law_gcd_2
  have C__law_prim_3 : Call l.prog w K mg base 3 "_law_prim" ["v"] spPrimK := ⟨f__law_prim, _, S__law_prim_3, PySem.W.mg_of X G a__law_prim, F__law_prim.kp, b__law_prim⟩
  have S__law_dot_3 : FnOk l.prog w K mg base CX0 3 f__law_dot _ ["v", "w"] spDot := ok_ldot (k := 2) F__law_dot Z 
  have C__law_dot_3 : Call l.prog w K mg base 3 "_law_dot" ["v", "w"] spDot := ⟨f__law_dot, _, S__law_dot_3, PySem.W.mg_of X G a__law_dot, F__law_dot.kp, b__law_dot⟩
  have S__law_prim_2 : FnOk l.prog w K mg base CX0 2 f__law_prim _ ["v"] spPrimK := ok_lprimK (k := 1) F__law_prim Z  C__law_gcd_1
  have C__law_prim_2 : Call l.prog w K mg base 2 "_law_prim" ["v"] spPrimK := ⟨f__law_prim, _, S__law_prim_2, PySem.W.mg_of X G a__law_prim, F__law_prim.kp, b__law_prim⟩
  have S__law_point_3 : FnOk l.prog w K mg base CX0 3 f__law_point _ ["pool", "d", "most"] spPoint := ok_point (k := 2) F__law_point Z  C__law_draw_2 C__law_prim_2
  have C__law_point_3 : Call l.prog w K mg base 3 "_law_point" ["pool", "d", "most"] spPoint := ⟨f__law_point, _, S__law_point_3, PySem.W.mg_of X G a__law_point, F__law_point.kp, b__law_point⟩
  have S__law_coordinates_3 : FnOk l.prog w K mg base CX0 3 f__law_coordinates _ ["point"] spCoord := ok_lcoord (k := 2) F__law_coordinates Z  C__law_frac_2
  have C__law_coordinates_3 : Call l.prog w K mg base 3 "_law_coordinates" ["point"] spCoord := ⟨f__law_coordinates, _, S__law_coordinates_3, PySem.W.mg_of X G a__law_coordinates, F__law_coordinates.kp, b__law_coordinates⟩
  have S__law_of_coordinates_3 : FnOk l.prog w K mg base CX0 3 f__law_of_coordinates _ ["row"] spOfC := ok_ofc (k := 2) F__law_of_coordinates Z  C__law_prim_2
  have C__law_of_coordinates_3 : Call l.prog w K mg base 3 "_law_of_coordinates" ["row"] spOfC := ⟨f__law_of_coordinates, _, S__law_of_coordinates_3, PySem.W.mg_of X G a__law_of_coordinates, F__law_of_coordinates.kp, b__law_of_coordinates⟩
  have S__law_add_3 : FnOk l.prog w K mg base CX0 3 f__law_add _ ["x", "y"] (spTwo fun a b c d => (a * d + c * b, b * d)) := ok_ladd (k := 2) F__law_add Z  C__law_frac_2
  have C__law_add_3 : Call l.prog w K mg base 3 "_law_add" ["x", "y"] (spTwo fun a b c d => (a * d + c * b, b * d)) := ⟨f__law_add, _, S__law_add_3, PySem.W.mg_of X G a__law_add, F__law_add.kp, b__law_add⟩
  have S__law_mul_3 : FnOk l.prog w K mg base CX0 3 f__law_mul _ ["x", "y"] (spTwo fun a b c d => (a * c, b * d)) := ok_lmul (k := 2) F__law_mul Z  C__law_frac_2
  have C__law_mul_3 : Call l.prog w K mg base 3 "_law_mul" ["x", "y"] (spTwo fun a b c d => (a * c, b * d)) := ⟨f__law_mul, _, S__law_mul_3, PySem.W.mg_of X G a__law_mul, F__law_mul.kp, b__law_mul⟩
  have S_made_point_3 : FnOk l.prog w K mg base CX0 3 f_made_point _ ["coordinates"] spMadePt := ok_madept (k := 2) F_made_point Z 
  have C_made_point_3 : Call l.prog w K mg base 3 "made_point" ["coordinates"] spMadePt := ⟨f_made_point, _, S_made_point_3, PySem.W.mg_of X G a_made_point, F_made_point.kp, b_made_point⟩
  have S_fraction_2 : FnOk l.prog w K mg base CX0 2 f_fraction _ ["a", "b"] spFr := ok_frac (k := 1) F_fraction Z 
  have C_fraction_2 : Call l.prog w K mg base 2 "fraction" ["a", "b"] spFr := ⟨f_fraction, _, S_fraction_2, PySem.W.mg_of X G a_fraction, F_fraction.kp, b_fraction⟩
  have S_coordinates_3 : FnOk l.prog w K mg base CX0 3 f_coordinates _ ["point"] spCoord := ok_coord (k := 2) F_coordinates Z  C_fraction_2
  have C_coordinates_3 : Call l.prog w K mg base 3 "coordinates" ["point"] spCoord := ⟨f_coordinates, _, S_coordinates_3, PySem.W.mg_of X G a_coordinates, F_coordinates.kp, b_coordinates⟩
  have S_combined_2 : FnOk l.prog w K mg base CX0 2 f_combined _ ["weights", "vectors"] spComb := ok_comb (k := 1) F_combined Z 
  have C_combined_2 : Call l.prog w K mg base 2 "combined" ["weights", "vectors"] spComb := ⟨f_combined, _, S_combined_2, PySem.W.mg_of X G a_combined, F_combined.kp, b_combined⟩
  have S_common_divisor_1 : FnOk l.prog w K mg base CX0 1 f_common_divisor _ ["v"] spCd := ok_cd (k := 0) F_common_divisor Z 
  have C_common_divisor_1 : Call l.prog w K mg base 1 "common_divisor" ["v"] spCd := ⟨f_common_divisor, _, S_common_divisor_1, PySem.W.mg_of X G a_common_divisor, F_common_divisor.kp, b_common_divisor⟩
  have S_primitive_2 : FnOk l.prog w K mg base CX0 2 f_primitive _ ["v"] spPrim := ok_prim (k := 1) F_primitive Z  C_common_divisor_1
  have C_primitive_2 : Call l.prog w K mg base 2 "primitive" ["v"] spPrim := ⟨f_primitive, _, S_primitive_2, PySem.W.mg_of X G a_primitive, F_primitive.kp, b_primitive⟩
  have S_with_common_first_2 : FnOk l.prog w K mg base CX0 2 f_with_common_first _ ["points"] spWcf := ok_wcf (k := 1) F_with_common_first Z 
  have C_with_common_first_2 : Call l.prog w K mg base 2 "with_common_first" ["points"] spWcf := ⟨f_with_common_first, _, S_with_common_first_2, PySem.W.mg_of X G a_with_common_first, F_with_common_first.kp, b_with_common_first⟩
  have S_middle_3 : FnOk l.prog w K mg base CX0 3 f_middle _ ["points"] spMid := ok_mid (k := 2) F_middle Z  C_combined_2 C_primitive_2 C_with_common_first_2
  have C_middle_3 : Call l.prog w K mg base 3 "middle" ["points"] spMid := ⟨f_middle, _, S_middle_3, PySem.W.mg_of X G a_middle, F_middle.kp, b_middle⟩
  have S_combined_3 : FnOk l.prog w K mg base CX0 3 f_combined _ ["weights", "vectors"] spComb := ok_comb (k := 2) F_combined Z 
  have C_combined_3 : Call l.prog w K mg base 3 "combined" ["weights", "vectors"] spComb := ⟨f_combined, _, S_combined_3, PySem.W.mg_of X G a_combined, F_combined.kp, b_combined⟩
  have S_reversed_inequality_3 : FnOk l.prog w K mg base CX0 3 f_reversed_inequality _ ["inequality"] spRev := ok_rev (k := 2) F_reversed_inequality Z 
  have C_reversed_inequality_3 : Call l.prog w K mg base 3 "reversed_inequality" ["inequality"] spRev := ⟨f_reversed_inequality, _, S_reversed_inequality_3, PySem.W.mg_of X G a_reversed_inequality, F_reversed_inequality.kp, b_reversed_inequality⟩
  have S_dot_2 : FnOk l.prog w K mg base CX0 2 f_dot _ ["v", "w"] spDot := ok_dot (k := 1) F_dot Z 
  have C_dot_2 : Call l.prog w K mg base 2 "dot" ["v", "w"] spDot := ⟨f_dot, _, S_dot_2, PySem.W.mg_of X G a_dot, F_dot.kp, b_dot⟩
  have S_value_at_3 : FnOk l.prog w K mg base CX0 3 f_value_at _ ["inequality", "point"] spVal := ok_val (k := 2) F_value_at Z  C_fraction_2 C_dot_2
  have C_value_at_3 : Call l.prog w K mg base 3 "value_at" ["inequality", "point"] spVal := ⟨f_value_at, _, S_value_at_3, PySem.W.mg_of X G a_value_at, F_value_at.kp, b_value_at⟩
  have S_made_inequality_3 : FnOk l.prog w K mg base (L2.CX l.prog w) 3 f_made_inequality _ ["row"] (spMI D_BadInequality) := ok_mi (k := 2) F_made_inequality Z E_BadInequality C_primitive_2
  have C_made_inequality_3 : CallX l.prog w K mg base 3 "made_inequality" ["row"] (spMI D_BadInequality) := ⟨f_made_inequality, _, S_made_inequality_3, PySem.W.mg_of X G a_made_inequality, F_made_inequality.kp, b_made_inequality⟩
  exact ok_law (P := l.prog) (w := w) (base := base) (k := 3) F_law Z E_BadInequality X_BadInequality (PySem.W.mg_of X G eg_BadNumber) kit_BadInequality_BadNumber C__law_pool_3 C__law_draw_3 DS_same_2_3 C__law_some_frac_3 C__law_frac_3 C__law_prim_3 C__law_dot_3 C__law_point_3 C__law_coordinates_3 C__law_of_coordinates_3 C__law_add_3 C__law_mul_3 C_made_point_3 C_coordinates_3 C_middle_3 C_combined_3 C_reversed_inequality_3 C_value_at_3 C_made_inequality_3
end HwP
open PySem PySem.W PyProof.Rows
set_option maxHeartbeats 0 in
theorem PySem.Challenge.cw_hullwright_k10_functions_of_points_holds : PySem.Challenge.rw_hullwright_k10_functions_of_points.Holds := by
  w_on; o_law; k_head; (case hw => w_witness2)
  k_fill
  refine L2.walk_of (l := PySem.Challenge.rw_hullwright_k10_functions_of_points) (n := 63) (k := 4) (x := "script") (CX := fun _ => L2.CX0) (sp := fun w => HwP.spLaw _) rfl (by decide) rfl ⟨rfl, by decide, by decide⟩ (fun w h Y => PySem.W.kIn_of Y) ?F (fun _ _ a ns hl _ hS => ⟨a, ns, rfl, hS, fun _ => rfl⟩) (fun _ _ _ _ _ h => h)
  case F =>
    intro w mg fa h KX G hmg
    refine' HwP.all_mk KX G hmg (a__law_same := ?a__law_same) (l__law_same := ?l__law_same) (c__law_same := ?c__law_same) (k__law_same := ?k__law_same) (a__law_gcd := ?a__law_gcd) (l__law_gcd := ?l__law_gcd) (c__law_gcd := ?c__law_gcd) (k__law_gcd := ?k__law_gcd) (a__law_spread := ?a__law_spread) (l__law_spread := ?l__law_spread) (c__law_spread := ?c__law_spread) (k__law_spread := ?k__law_spread) (a__law_draw := ?a__law_draw) (l__law_draw := ?l__law_draw) (c__law_draw := ?c__law_draw) (k__law_draw := ?k__law_draw) (a__law_pool := ?a__law_pool) (l__law_pool := ?l__law_pool) (c__law_pool := ?c__law_pool) (k__law_pool := ?k__law_pool) (a_common_divisor := ?a_common_divisor) (l_common_divisor := ?l_common_divisor) (c_common_divisor := ?c_common_divisor) (k_common_divisor := ?k_common_divisor) (a_primitive := ?a_primitive) (l_primitive := ?l_primitive) (c_primitive := ?c_primitive) (k_primitive := ?k_primitive) (a__law_frac := ?a__law_frac) (l__law_frac := ?l__law_frac) (c__law_frac := ?c__law_frac) (k__law_frac := ?k__law_frac) (a_fraction := ?a_fraction) (l_fraction := ?l_fraction) (c_fraction := ?c_fraction) (k_fraction := ?k_fraction) (a__law_prim := ?a__law_prim) (l__law_prim := ?l__law_prim) (c__law_prim := ?c__law_prim) (k__law_prim := ?k__law_prim) (a__law_dot := ?a__law_dot) (l__law_dot := ?l__law_dot) (c__law_dot := ?c__law_dot) (k__law_dot := ?k__law_dot) (a_dot := ?a_dot) (l_dot := ?l_dot) (c_dot := ?c_dot) (k_dot := ?k_dot) (a__law_point := ?a__law_point) (l__law_point := ?l__law_point) (c__law_point := ?c__law_point) (k__law_point := ?k__law_point) (a__law_coordinates := ?a__law_coordinates) (l__law_coordinates := ?l__law_coordinates) (c__law_coordinates := ?c__law_coordinates) (k__law_coordinates := ?k__law_coordinates) (a_coordinates := ?a_coordinates) (l_coordinates := ?l_coordinates) (c_coordinates := ?c_coordinates) (k_coordinates := ?k_coordinates) (a__law_of_coordinates := ?a__law_of_coordinates) (l__law_of_coordinates := ?l__law_of_coordinates) (c__law_of_coordinates := ?c__law_of_coordinates) (k__law_of_coordinates := ?k__law_of_coordinates) (a__law_add := ?a__law_add) (l__law_add := ?l__law_add) (c__law_add := ?c__law_add) (k__law_add := ?k__law_add) (a__law_mul := ?a__law_mul) (l__law_mul := ?l__law_mul) (c__law_mul := ?c__law_mul) (k__law_mul := ?k__law_mul) (a__law_some_frac := ?a__law_some_frac) (l__law_some_frac := ?l__law_some_frac) (c__law_some_frac := ?c__law_some_frac) (k__law_some_frac := ?k__law_some_frac) (a_made_point := ?a_made_point) (l_made_point := ?l_made_point) (c_made_point := ?c_made_point) (k_made_point := ?k_made_point) (a_made_inequality := ?a_made_inequality) (l_made_inequality := ?l_made_inequality) (c_made_inequality := ?c_made_inequality) (k_made_inequality := ?k_made_inequality) (a_value_at := ?a_value_at) (l_value_at := ?l_value_at) (c_value_at := ?c_value_at) (k_value_at := ?k_value_at) (a_combined := ?a_combined) (l_combined := ?l_combined) (c_combined := ?c_combined) (k_combined := ?k_combined) (a_with_common_first := ?a_with_common_first) (l_with_common_first := ?l_with_common_first) (c_with_common_first := ?c_with_common_first) (k_with_common_first := ?k_with_common_first) (a_middle := ?a_middle) (l_middle := ?l_middle) (c_middle := ?c_middle) (k_middle := ?k_middle) (a_reversed_inequality := ?a_reversed_inequality) (l_reversed_inequality := ?l_reversed_inequality) (c_reversed_inequality := ?c_reversed_inequality) (k_reversed_inequality := ?k_reversed_inequality) (a_law := ?a_law) (l_law := ?l_law) (c_law := ?c_law) (k_law := ?k_law) (eg_BadInequality := ?eg_BadInequality) (ex_BadInequality := ?ex_BadInequality) (ek_BadInequality := ?ek_BadInequality) (eb_BadInequality := ?eb_BadInequality) (et_BadInequality := ?et_BadInequality) (ed_BadInequality := ?ed_BadInequality) (es_BadInequality := ?es_BadInequality) (eg_BadNumber := ?eg_BadNumber) (xg_BadInequality := ?xg_BadInequality) (xk_BadInequality := ?xk_BadInequality) (xa_BadInequality := ?xa_BadInequality) (xn_BadInequality := ?xn_BadInequality) (xt_BadInequality := ?xt_BadInequality) (xm_BadInequality := ?xm_BadInequality) (kit_BadInequality_BadNumber := ?kit_BadInequality_BadNumber) (z_len := ?z_len) (z_range := ?z_range) (z_int := ?z_int) (z_list := ?z_list) (z_tuple := ?z_tuple) (z_bool := ?z_bool) (z_isinstance := ?z_isinstance) (z_abs := ?z_abs) (z_sum := ?z_sum) (z_zip := ?z_zip) (z_str := ?z_str) (z_any := ?z_any) (z_all := ?z_all) (z_gcd := ?z_gcd) (z_lcm := ?z_lcm)
    (case a__law_same => k_is)
    (case l__law_same => k_is)
    (case c__law_same => k_is)
    (case k__law_same => k_is)
    (case a__law_gcd => k_is)
    (case l__law_gcd => k_is)
    (case c__law_gcd => k_is)
    (case k__law_gcd => k_is)
    (case a__law_spread => k_is)
    (case l__law_spread => k_is)
    (case c__law_spread => k_is)
    (case k__law_spread => k_is)
    (case a__law_draw => k_is)
    (case l__law_draw => k_is)
    (case c__law_draw => k_is)
    (case k__law_draw => k_is)
    (case a__law_pool => k_is)
    (case l__law_pool => k_is)
    (case c__law_pool => k_is)
    (case k__law_pool => k_is)
    (case a_common_divisor => k_is)
    (case l_common_divisor => k_is)
    (case c_common_divisor => k_is)
    (case k_common_divisor => k_is)
    (case a_primitive => k_is)
    (case l_primitive => k_is)
    (case c_primitive => k_is)
    (case k_primitive => k_is)
    (case a__law_frac => k_is)
    (case l__law_frac => k_is)
    (case c__law_frac => k_is)
    (case k__law_frac => k_is)
    (case a_fraction => k_is)
    (case l_fraction => k_is)
    (case c_fraction => k_is)
    (case k_fraction => k_is)
    (case a__law_prim => k_is)
    (case l__law_prim => k_is)
    (case c__law_prim => k_is)
    (case k__law_prim => k_is)
    (case a__law_dot => k_is)
    (case l__law_dot => k_is)
    (case c__law_dot => k_is)
    (case k__law_dot => k_is)
    (case a_dot => k_is)
    (case l_dot => k_is)
    (case c_dot => k_is)
    (case k_dot => k_is)
    (case a__law_point => k_is)
    (case l__law_point => k_is)
    (case c__law_point => k_is)
    (case k__law_point => k_is)
    (case a__law_coordinates => k_is)
    (case l__law_coordinates => k_is)
    (case c__law_coordinates => k_is)
    (case k__law_coordinates => k_is)
    (case a_coordinates => k_is)
    (case l_coordinates => k_is)
    (case c_coordinates => k_is)
    (case k_coordinates => k_is)
    (case a__law_of_coordinates => k_is)
    (case l__law_of_coordinates => k_is)
    (case c__law_of_coordinates => k_is)
    (case k__law_of_coordinates => k_is)
    (case a__law_add => k_is)
    (case l__law_add => k_is)
    (case c__law_add => k_is)
    (case k__law_add => k_is)
    (case a__law_mul => k_is)
    (case l__law_mul => k_is)
    (case c__law_mul => k_is)
    (case k__law_mul => k_is)
    (case a__law_some_frac => k_is)
    (case l__law_some_frac => k_is)
    (case c__law_some_frac => k_is)
    (case k__law_some_frac => k_is)
    (case a_made_point => k_is)
    (case l_made_point => k_is)
    (case c_made_point => k_is)
    (case k_made_point => k_is)
    (case a_made_inequality => k_is)
    (case l_made_inequality => k_is)
    (case c_made_inequality => k_is)
    (case k_made_inequality => k_is)
    (case a_value_at => k_is)
    (case l_value_at => k_is)
    (case c_value_at => k_is)
    (case k_value_at => k_is)
    (case a_combined => k_is)
    (case l_combined => k_is)
    (case c_combined => k_is)
    (case k_combined => k_is)
    (case a_with_common_first => k_is)
    (case l_with_common_first => k_is)
    (case c_with_common_first => k_is)
    (case k_with_common_first => k_is)
    (case a_middle => k_is)
    (case l_middle => k_is)
    (case c_middle => k_is)
    (case k_middle => k_is)
    (case a_reversed_inequality => k_is)
    (case l_reversed_inequality => k_is)
    (case c_reversed_inequality => k_is)
    (case k_reversed_inequality => k_is)
    (case a_law => k_is)
    (case l_law => k_is)
    (case c_law => k_is)
    (case k_law => k_is)
    (case eg_BadInequality => k_is)
    (case ex_BadInequality => k_exc)
    (case ek_BadInequality => k_is)
    (case eb_BadInequality => k_is)
    (case et_BadInequality => k_is)
    (case ed_BadInequality => k_is)
    (case es_BadInequality => first | rfl | k_is)
    (case eg_BadNumber => k_is)
    (case xg_BadInequality => k_is)
    (case xk_BadInequality => k_is)
    (case xa_BadInequality => k_is)
    (case xn_BadInequality => first | rfl | k_is)
    (case xt_BadInequality => first | rfl | k_is)
    (case xm_BadInequality => k_is)
    (case kit_BadInequality_BadNumber => first | rfl | k_is)
    (case z_len => k_is)
    (case z_range => k_is)
    (case z_int => k_is)
    (case z_list => k_is)
    (case z_tuple => k_is)
    (case z_bool => k_is)
    (case z_isinstance => k_is)
    (case z_abs => k_is)
    (case z_sum => k_is)
    (case z_zip => k_is)
    (case z_str => k_is)
    (case z_any => k_is)
    (case z_all => k_is)
    (case z_gcd => k_is)
    (case z_lcm => k_is)

