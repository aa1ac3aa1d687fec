import PyProof.Rows.All
import Wide.All
import OpenK.AllK
import Wide.FinOn
import HandS.ForMost
import HandS.Wide
import HandS.Gcd
import HandS.IsInst
import HandS.Codes
import HandS.Zip
import HandS.Walk
import PyProof.WalksMore
import PyProof.ConsumeWalk
import KE.GoesMore
import KE.GoesEnum
import KE.GoesZip
import HandS.TupMul
import HandS.TupAny
import HandS.Exc
import HandS.TryOnly
import HandS.ExcOwn
import HandS.WordsExc
import HandS.ExcIs
import PySem.Challenge.RW_hullwright_k09_points_and_inequalities_t
set_option Elab.async false
set_option linter.all false
set_option maxRecDepth 100000
set_option maxHeartbeats 4000000

namespace Hw
/-- Euclid's loop, by its turn -/
def Fit (i A B : Nat) : Prop := (i = 0 ∧ A * B < 2 ^ 598) ∨ (1 ≤ i ∧ B < A ∧ A * B * 2 ^ (i - 1) < 2 ^ 598)
theorem fit0 {A B : Nat} (ha : A < 2 ^ 299) (hb : B < 2 ^ 299) : Fit 0 A B := by
  refine .inl ⟨rfl, ?_⟩
  have h : A * B < 2 ^ 299 * 2 ^ 299 := Nat.mul_lt_mul'' ha hb
  rwa [← Nat.pow_add] at h
theorem fit_step {i A B : Nat} (h : Fit i A B) (hb : B ≠ 0) : Fit (i + 1) B (A % B) := by
  have hr : A % B < B := Nat.mod_lt _ (Nat.pos_of_ne_zero hb)
  refine .inr ⟨by omega, hr, ?_⟩
  rcases h with ⟨rfl, h⟩ | ⟨hi, hlt, h⟩
  · have h1 : B * (A % B) ≤ B * A := Nat.mul_le_mul_left _ (Nat.mod_le _ _)
    rw [Nat.mul_comm B A] at h1
    show B * (A % B) * 2 ^ 0 < 2 ^ 598
    rw [Nat.pow_zero, Nat.mul_one]
    omega
  · obtain ⟨j, rfl⟩ : ∃ j, i = j + 1 := ⟨i - 1, by omega⟩
    show B * (A % B) * 2 ^ (j + 1) < 2 ^ 598
    have h2 : 2 * (A % B) ≤ A := by
      have e : B * (A / B) + A % B = A := Nat.div_add_mod A B
      have q : 1 ≤ A / B := Nat.div_pos (Nat.le_of_lt hlt) (Nat.pos_of_ne_zero hb)
      have m : B * 1 ≤ B * (A / B) := Nat.mul_le_mul_left _ q
      omega
    have h3 : B * (2 * (A % B)) ≤ B * A := Nat.mul_le_mul_left _ h2
    have h4 : B * (A % B) * 2 ^ (j + 1) = B * (2 * (A % B)) * 2 ^ j := by
      rw [Nat.pow_succ]
      simp only [Nat.mul_assoc, Nat.mul_left_comm, Nat.mul_comm]
    rw [h4]
    refine Nat.lt_of_le_of_lt (Nat.mul_le_mul_right _ h3) ?_
    rw [Nat.mul_comm B A]
    exact h
theorem fit_end {A B : Nat} (h : Fit 600 A B) : B = 0 := by
  rcases h with ⟨h, _⟩ | ⟨_, hlt, h⟩
  · omega
  · by_cases hb : B = 0
    · exact hb
    · exfalso
      have h1 : 1 ≤ A * B := Nat.mul_pos (by omega) (by omega)
      have h2 : 1 * 2 ^ (600 - 1) ≤ A * B * 2 ^ (600 - 1) := Nat.mul_le_mul_right _ h1
      have h3 : (2 : Nat) ^ 598 < 2 ^ (600 - 1) := Nat.pow_lt_pow_right (by decide) (by decide)
      omega
theorem gcd_turn (A B : Nat) : Nat.gcd B (A % B) = Nat.gcd A B := by
  rw [Nat.gcd_comm B, ← Nat.gcd_rec, Nat.gcd_comm]
/-- the greatest common divisor, an int -/
def g2 (a b : Int) : Int := ((Nat.gcd a.natAbs b.natAbs : Nat) : Int)
theorem g2_pos {a b : Int} (hb : b ≠ 0) : 0 < g2 a b := by
  unfold g2
  have : 0 < Nat.gcd a.natAbs b.natAbs := Nat.gcd_pos_of_pos_right _ (by omega)
  omega
theorem g2_nn0 (a b : Int) : 0 ≤ g2 a b := by
  unfold g2
  omega
theorem g2_le {a b : Int} (hb : b ≠ 0) : (g2 a b).natAbs ≤ b.natAbs := by
  unfold g2
  have : Nat.gcd a.natAbs b.natAbs ≤ b.natAbs := Nat.gcd_le_right _ (by omega)
  omega
/-- a fraction's two entries, b > 0 -/
def frN (a b : Int) : Int := a / g2 a b
def frD (a b : Int) : Int := b / g2 a b
theorem g2_dvd_l (a b : Int) : g2 a b ∣ a := by
  unfold g2
  exact Int.ofNat_dvd_left.mpr (Nat.gcd_dvd_left _ _)
theorem g2_dvd_r (a b : Int) : g2 a b ∣ b := by
  unfold g2
  exact Int.ofNat_dvd_left.mpr (Nat.gcd_dvd_right _ _)
theorem frD_pos {a b : Int} (hb : 0 < b) : 0 < frD a b := by
  have g := g2_pos (a := a) (b := b) (by omega)
  exact Int.ediv_pos_of_pos_of_dvd hb (Int.le_of_lt g) (g2_dvd_r a b)
theorem ediv_abs {a g : Int} (hg : 0 < g) : (a / g).natAbs ≤ a.natAbs := by
  have h1 := Int.mul_ediv_self_le (x := a) (k := g) (by omega)
  have h2 := Int.lt_mul_ediv_self_add (x := a) (k := g) hg
  generalize hq : a / g = q at *
  by_cases c : 0 ≤ q
  · have : 1 * q ≤ g * q := Int.mul_le_mul_of_nonneg_right (by omega) c
    omega
  · have h3 : g * q ≤ g * (-1) + (q + 1) := by
      have : g * (q + 1) ≤ 1 * (q + 1) := Int.mul_le_mul_of_nonpos_right (by omega) (by omega)
      rw [Int.mul_add, Int.mul_one, Int.one_mul] at this
      omega
    omega
theorem frN_abs {a b : Int} (hb : b ≠ 0) : (frN a b).natAbs ≤ a.natAbs := ediv_abs (g2_pos hb)
theorem frD_abs {a b : Int} (hb : b ≠ 0) : (frD a b).natAbs ≤ b.natAbs := ediv_abs (g2_pos hb)
theorem mul_pow {x y : Int} {a b : Nat} (ha : x.natAbs < 2 ^ a) (hb : y.natAbs < 2 ^ b) : (x * y).natAbs < 2 ^ (a + b) := by
  rw [Int.natAbs_mul, Nat.pow_add]
  exact Nat.mul_lt_mul'' ha hb
theorem add_pow {x y : Int} {a : Nat} (ha : x.natAbs < 2 ^ a) (hb : y.natAbs < 2 ^ a) : (x + y).natAbs < 2 ^ (a + 1) := by
  rw [Nat.pow_succ]
  omega
theorem sub_pow {x y : Int} {a : Nat} (ha : x.natAbs < 2 ^ a) (hb : y.natAbs < 2 ^ a) : (x - y).natAbs < 2 ^ (a + 1) := by
  rw [Nat.pow_succ]
  omega
theorem up_pow {x : Nat} {a b : Nat} (h : x < 2 ^ a) (l : a ≤ b) : x < 2 ^ b := Nat.lt_of_lt_of_le h (Nat.pow_le_pow_right (by decide) l)
/-- the sign of an int -/
def sg (a : Int) : Int := if 0 < a then 1 else if a < 0 then -1 else 0
theorem sg_frN {a b : Int} (hb : b ≠ 0) : sg (frN a b) = sg a := by
  have g := g2_pos (a := a) hb
  obtain ⟨c, hc⟩ := g2_dvd_l a b
  have e : frN a b = c := by
    unfold frN
    generalize g2 a b = k at *
    subst hc
    exact Int.mul_ediv_cancel_left _ (by omega)
  rw [e]
  generalize g2 a b = k at *
  subst hc
  unfold sg
  have p1 : 0 < k * c ↔ 0 < c := ⟨fun h => Int.pos_of_mul_pos_right h (by omega), fun h => Int.mul_pos g h⟩
  have p2 : k * c < 0 ↔ c < 0 := by
    constructor
    · intro h
      by_cases q : c < 0
      · exact q
      · have := Int.mul_nonneg (Int.le_of_lt g) (show 0 ≤ c by omega)
        omega
    · intro h
      exact Int.mul_neg_of_pos_of_neg g h
  simp only [p1, p2]
end Hw

/-! ### operations that the layer lacks -/
namespace HwG
open PySem PySem.Spec PyProof.Rows L2 RZ
theorem tuple_mul1 (l : Addr) (items : Array Value) (n : Nat) (dd : Option Addr) (sl : Array (Option Value)) (x : Int) (u : Tok) (c0 : (decide (x < -(2 ^ 63)) || decide (x ≥ 2 ^ 63)) = false) (c1 : (items.isEmpty || x == 1) = true) :
    Meets (Builtin.«tuple.__mul__» ⟨[.ref l, .int x u], []⟩) (fun _ R s => s.heap.get? l = some { cls := .type "tuple", dict := dd, data := .seq items n, slots := sl } ∧
      R (.ok (.ret (Value.ref l))) s) :=
  .of_wp fun prog w A R s h => by
    obtain ⟨hp, g, d, tk, os⟩ := s
    obtain ⟨hl, h⟩ := h
    have f1 := AutoSeq1.idx_int
    wp_walk using wpAny_loadPart' hl
    repeat (first
      | (refine wpAny_ite_false (decide_eq_false (by rw [c0]; exact Bool.false_ne_true)) ?_; wp_walk using wpAny_loadPart' hl)
      | (refine wpAny_ite_true (decide_eq_true c1) ?_; wp_walk using wpAny_loadPart' hl))
    exact ⟨_, rfl, h⟩
def rRepT1 (K : PySem.W.Frag) : R2 := fun x y H Q => ∃ l xs, x = .ref l ∧ y = .int 1 ∧ SqT K H l xs ∧ Q (.ref l) H
section
variable {X : Cx}
theorem op_repT1 : OpR X (binaryOp .Mult) (rRepT1 X.K) := by
  intro pins s σ H x y v u Q I rx ry h
  obtain ⟨l, xs, rfl, rfl, hT, q⟩ := h
  cases rx
  obtain ⟨t, rfl⟩ := ry
  obtain ⟨its, r, ⟨⟨cls, dd, data, sl⟩, ho, hc, n, hd⟩, hs⟩ := I.tuple hT
  simp only at hc hd
  subst hc hd
  have c0 : (decide ((1 : Int) < -(2 ^ 63)) || decide ((1 : Int) ≥ 2 ^ 63)) = false := by decide
  have c1 : (its.toArray.isEmpty || (1 : Int) == 1) = true := by
    rw [show ((1 : Int) == 1) = true by decide, Bool.or_true]
  exact wpAny_binaryOp_repeat_ref (T := "tuple") (U := "int") (by decide) ⟨_, ho, rfl⟩ (fun s' => typeIs_int s' 1 t) noFill_tuple_mul F.fills_int_mul F.slot_int_rmul repeat_tuple F.slot_int_index.lookup
    (call_meets F.slot_int_rmul (typeIs_int s 1 t) F.entry_int_rmul (F.args_int_rmul_2 _ _) (int_rmul_tuple 1 t l its.toArray n dd sl)
      ⟨ho, rfl, ⟨_, ho, rfl⟩, call_meets F.slot_tuple_mul ⟨_, ho, rfl⟩ F.entry_tuple_mul (F.args_tuple_mul_2 _ _) (tuple_mul1 l its.toArray n dd sl 1 t c0 c1) ⟨ho, .ref l, H, I, rfl, q⟩⟩)
def rRepA (K : PySem.W.Frag) : R2 := fun x y H Q => rRepT K x y H Q ∨ rRepT1 K x y H Q
/-- a tuple times 1 .. 1000 -/
theorem op_repA : OpR X (binaryOp .Mult) (rRepA X.K) := by
  intro pins s σ H x y v u Q I rx ry q
  rcases q with q | q
  · exact op_repT pins s σ H x y v u Q I rx ry q
  · exact op_repT1 pins s σ H x y v u Q I rx ry q
/-- // by a divisor of any sign -/
def CDivA (_ j : Int) : Prop := j ≠ 0 ∧ j.natAbs.log2 < 9000
theorem op_fdivA : OpR X (binaryOp .FloorDiv) (rI CDivA fun i j => .int (i.fdiv j)) := opI fun i j _ _ _ _ _ hc q => floordiv_int hc.1 q (.inl (PyProof.noPylong_of_log2 hc.2))
end
/-- zip of two tuples, walked -/
theorem walk_zipT {K : PySem.W.Frag} {a b : Addr} {xs ys : List V} {n : Nat} (h1 : xs.length = n) (h2 : ys.length = n) : Walk (ItzT K a b) n (fun H => SqT K H a xs ∧ SqT K H b ys) (YPair (fun i => xs[i]?) (fun i => ys[i]?)) :=
  ⟨fun i H hi hG => ⟨xs, ys, xs[i], ys[i], hG.1, hG.2, List.getElem?_eq_getElem (by omega), List.getElem?_eq_getElem (by omega)⟩, fun H hG => ⟨xs, ys, hG.1, hG.2, .inl (by omega)⟩,
    fun i H x H' hi hG y => by
      obtain ⟨T, u, v, e1, e2, e3, e4, e5⟩ := y
      exact ⟨T, u, v, e1, e2, e3, e4 _ hG.1, e5 _ hG.2⟩⟩
end HwG

/-! ### zip of a list or tuple with a list or tuple -/
namespace HwZ
open PySem PySem.Spec PyProof.Rows L2 RZ
/-- at a stands a sequence: a tuple (true) or a list -/
def Sk (K : PySem.W.Frag) (k : Bool) (H : Hp) (a : Addr) (xs : List V) : Prop := match k with
  | true => SqT K H a xs
  | false => SqL K H a xs
def AtK (k : Bool) (h : Heap) (it a : Addr) (i : Nat) : Prop := match k with
  | true => h.IsTupleIter it a i
  | false => h.IsListIter it a i
def SeqK (k : Bool) (h : Heap) (a : Addr) (its : Array Value) : Prop := match k with
  | true => h.IsTuple a its
  | false => h.IsList a its
def begK (k : Bool) (a : Addr) : Obj := match k with
  | true => { cls := .type "tuple_iterator", data := .fields #[.ref a, .int 0 0] }
  | false => { cls := .type "list_iterator", data := .fields #[.ref a, .int 0 0] }
theorem drawsK (k : Bool) {prog : Program} {w : World} {A : Around} (hh : A.handled = none) (it a : Addr) (ne : a ≠ it) (its : Array Value) :
    Draws prog w A it [it, a] its.size (fun i v => its[i]? = some v) (fun i h => AtK k h it a i ∧ SeqK k h a its) := by
  cases k with
  | true => exact Draws.tuple hh it a ne its
  | false => exact Draws.list hh it a ne its
theorem beginsK (k : Bool) (a : Addr) (its : Array Value) : Begins (.ref a) (begK k a) fun h => SeqK k h a its := by
  cases k with
  | true => exact begins_tuple a its
  | false => exact begins_list a its
theorem atK_beg {k : Bool} {h : Heap} {it a : Addr} (e : h.get? it = some (begK k a)) : AtK k h it a 0 := by
  cases k with
  | true => exact ⟨_, e, rfl, rfl⟩
  | false => exact ⟨_, e, rfl, rfl⟩
theorem atK_at {k : Bool} {h h' : Heap} {it a : Addr} {i : Nat} (x : AtK k h it a i) (f : ∀ o, h.get? it = some o → h'.get? it = some o) : AtK k h' it a i := by
  cases k with
  | true => exact Heap.IsTupleIter.at x f
  | false => exact Heap.IsListIter.at x f
theorem atK_obj {k : Bool} {h : Heap} {it a : Addr} {i : Nat} (x : AtK k h it a i) : ∃ o, h.get? it = some o ∧ ∀ v, o.data ≠ .cell v := by
  cases k with
  | true =>
    obtain ⟨o, e, _, d⟩ := x
    exact ⟨o, e, fun v q => by rw [d] at q; cases q⟩
  | false =>
    obtain ⟨o, e, _, d⟩ := x
    exact ⟨o, e, fun v q => by rw [d] at q; cases q⟩
section
variable {X : Cx} {pins : List (Addr × Obj)} {σ : L2.St} {H : Hp} {s : Shared}
theorem sk_read {k : Bool} {a : Addr} {xs : List V} (I : Inv X pins σ H s) (h : Sk X.K k H a xs) : ∃ its : List Value, Vals xs its ∧ SeqK k s.heap a its.toArray := by
  cases k with
  | true =>
    obtain ⟨its, r, p, _⟩ := I.tuple h
    exact ⟨its, r, p⟩
  | false =>
    obtain ⟨its, r, p, _⟩ := I.list h
    exact ⟨its, r, p.isList⟩
theorem sk_inj {k : Bool} {a : Addr} {xs ys : List V} (I : Inv X pins σ H s) (h : Sk X.K k H a xs) (h' : Sk X.K k H a ys) : xs = ys := by
  cases k with
  | true => exact I.tuple_inj h h'
  | false => exact I.list_inj h h'
theorem seqK_lt {k : Bool} {h : Heap} {a : Addr} {its : Array Value} (x : SeqK k h a its) : a < h.objs.size := by
  cases k with
  | true =>
    obtain ⟨o, e, _⟩ := x
    exact Heap.lt_size e
  | false =>
    obtain ⟨o, e, _⟩ := x
    exact Heap.lt_size e
end
/-- what the loop sees: new pairs -/
def ItzK (K : PySem.W.Frag) (k1 k2 : Bool) (a b : Addr) : It :=
  ⟨fun i H => ∃ (xs ys : List V) (x y : V), Sk K k1 H a xs ∧ Sk K k2 H b ys ∧ xs[i]? = some x ∧ ys[i]? = some y,
    fun i H v H' => ∃ T x y, v = .ref T ∧ H T = none ∧ H' = upd H T (.tup [x, y]) ∧ (∀ xs, Sk K k1 H a xs → xs[i]? = some x) ∧ ∀ ys, Sk K k2 H b ys → ys[i]? = some y,
    fun i H => ∃ xs ys : List V, Sk K k1 H a xs ∧ Sk K k2 H b ys ∧ xs.length = i ∧ ys.length = i⟩
/-- the cells of the zip at z -/
structure Cells (z TI TO i1 i2 a b : Addr) : Prop where
  sep : ZipSep2 z TI TO i1 i2 [i1, a] [i2, b]
  ai : a ≠ i1
  bi : b ≠ i2
theorem cells_of (N a b : Nat) (ha : a < N) (hb : b < N) : Cells (N + 4) (N + 2) (N + 3) N (N + 1) a b :=
  ⟨zip_sep2 (fun c h => by rw [List.mem_singleton.mp h]; exact ha) (fun c h => by rw [List.mem_singleton.mp h]; exact hb), show a ≠ N by omega, show b ≠ N + 1 by omega⟩
def Now (k1 k2 : Bool) (z TI TO i1 i2 a b : Addr) (i : Nat) (h : Heap) : Prop := IsZip h z TI TO .none ∧ IsTupOf2 h TI (.ref i1) (.ref i2) ∧ (∃ u v, IsTupOf2 h TO u v) ∧ AtK k1 h i1 a i ∧ AtK k2 h i2 b i
theorem five {z TI TO i1 i2 c : Addr} (h : c ∈ [z, TI, TO, i1, i2]) : c = z ∨ c = TI ∨ c = TO ∨ c = i1 ∨ c = i2 := by simpa using h
theorem turn_zipK {P : Program} {w : World} {K : PySem.W.Frag} {elts : List Expr} {kk : Nat} {tpos : Pos} {k1 k2 : Bool} {a b z TI TO i1 i2 : Addr} (D : Cells z TI TO i1 i2 a b) :
    Turn P w K (.Tuple elts kk tpos) (ItzK K k1 k2 a b) [z, TI, TO, i1, i2] z (Now k1 k2 z TI TO i1 i2 a b) where
  mem := by simp
  obj := fun i h st c hc => by
    obtain ⟨hz, hT, ⟨u, v, hO⟩, h1, h2⟩ := st
    rcases five hc with e | e | e | e | e <;> subst e
    · exact ⟨_, hz, fun v q => nomatch q⟩
    · exact ⟨_, hT, fun v q => nomatch q⟩
    · exact ⟨_, hO, fun v q => nomatch q⟩
    · exact atK_obj h1
    · exact atK_obj h2
  keep := fun i h h' st f => by
    obtain ⟨hz, hT, ⟨u, v, hO⟩, h1, h2⟩ := st
    have g : ∀ c ∈ [z, TI, TO, i1, i2], ∀ o, h.get? c = some o → h'.get? c = some o := f
    exact ⟨g z (by simp) _ hz, g TI (by simp) _ hT, ⟨u, v, g TO (by simp) _ hO⟩, atK_at h1 (g i1 (by simp)), atK_at h2 (g i2 (by simp))⟩
  item := by
    intro X hP hw hK hc i pins s σ H E I hf st go
    subst hP hw hK
    obtain ⟨hz, hT, ⟨u0, v0, hO⟩, h1, h2⟩ := st
    obtain ⟨xs, ys, x, y, qx, qy, ex, ey⟩ := go
    obtain ⟨its, r1, p1⟩ := sk_read I qx
    obtain ⟨jts, r2, p2⟩ := sk_read I qy
    have n1 : i < its.toArray.size := by rw [List.size_toArray, ← r1.length]; exact (List.getElem?_eq_some_iff.mp ex).1
    have n2 : i < jts.toArray.size := by rw [List.size_toArray, ← r2.length]; exact (List.getElem?_eq_some_iff.mp ey).1
    have hd : X.A.in1.handled = none := I.ok.hd hc
    have zlt : z < s.heap.objs.size := Heap.lt_size hz
    refine wpAny_pyNext_zipD2_item D.sep (drawsK k1 hd i1 a D.ai its.toArray) (drawsK k2 hd i2 b D.bi jts.toArray) hz hT hO ⟨h1, p1⟩ ⟨h2, p2⟩ n1 n2 fun u v h' tk eu ev z' O' t1 t2 nT sz kp => ?_
    obtain ⟨u', gu, ru⟩ := r1.get ex
    obtain ⟨v', gv, rv⟩ := r2.get ey
    have euu : u = u' := Option.some.inj (eu.symm.trans (by simpa using gu))
    have evv : v = v' := Option.some.inj (ev.symm.trans (by simpa using gv))
    subst euu evv
    refine ⟨_, rfl, wpAny_letOwnedTupleGo_zip (s := { s with heap := h', toks := tk }) z' fun h2' z2 sb => ?_⟩
    have other : ∀ c, c ≠ z → h2'.get? c = h'.get? c := fun c hc => sb.2 c hc
    have fresh : h2'.get? s.heap.objs.size = some { cls := .type "tuple", data := .seq #[u, v] } := (other _ (Nat.ne_of_gt zlt)).trans nT
    have ob : ObjOk X.prog X.w (upd H s.heap.objs.size (.tup [x, y])) h2' s.heap.objs.size (.tup [x, y]) :=
      ⟨Nat.le_of_lt (small1000 (show 2 ≤ 1000 by decide)), [u, v], .cons ru (.cons rv .nil), ⟨_, fresh, rfl, _, rfl⟩⟩
    have J : Inv X pins σ (upd H s.heap.objs.size (.tup [x, y])) { s with heap := h2', toks := tk } :=
      I.turnedNew (ch := [z, TI, TO, i1, i2]) (fun c o nc q => by
        have m : c ≠ z ∧ c ≠ TO ∧ c ≠ i1 ∧ c ≠ i2 := ⟨fun e => nc (by rw [e]; simp), fun e => nc (by rw [e]; simp), fun e => nc (by rw [e]; simp), fun e => nc (by rw [e]; simp)⟩
        exact (other c m.1).trans (kp c o m.1 m.2.1 m.2.2.1 m.2.2.2 q)) hf (Nat.le_refl _) ob
    have hTI1 : TI ≠ i1 := D.sep.TIi1
    refine ⟨.ref s.heap.objs.size, _, J, rfl, ⟨_, x, y, rfl, I.hok.fresh (Nat.le_refl _), rfl, fun l hl => by rw [sk_inj I hl qx]; exact ex, fun l hl => by rw [sk_inj I hl qy]; exact ey⟩, ⟨z2, ?_, ⟨u, v, ?_⟩, ?_, ?_⟩, fun c hcm => ?_⟩
    · exact (other _ D.sep.TIz).trans (kp _ _ D.sep.TIz D.sep.TITO D.sep.TIi1 D.sep.TIi2 hT)
    · exact (other _ D.sep.TOz).trans O'
    · exact atK_at t1.1 fun o q => (other _ D.sep.zi1.symm).trans q
    · exact atK_at t2.1 fun o q => (other _ D.sep.zi2.symm).trans q
    · have lt : c < s.heap.objs.size := by
        rcases five hcm with e | e | e | e | e <;> subst e
        · exact zlt
        · exact Heap.lt_size hT
        · exact Heap.lt_size hO
        · obtain ⟨o, e, _⟩ := atK_obj h1
          exact Heap.lt_size e
        · obtain ⟨o, e, _⟩ := atK_obj h2
          exact Heap.lt_size e
      rw [upd_ne (Nat.ne_of_lt lt)]
      exact (hf c hcm).1
  done := by
    intro X hP hw hK hc i pins s σ H E I hf st stop
    subst hP hw hK
    obtain ⟨hz, hT, ⟨u0, v0, hO⟩, h1, h2⟩ := st
    obtain ⟨xs, ys, qx, qy, ex, ey⟩ := stop
    obtain ⟨its, r1, p1⟩ := sk_read I qx
    obtain ⟨jts, r2, p2⟩ := sk_read I qy
    have n1 : i = its.toArray.size := by rw [List.size_toArray, ← r1.length]; exact ex.symm
    have n2 : i = jts.toArray.size := by rw [List.size_toArray, ← r2.length]; exact ey.symm
    have hd : X.A.in1.handled = none := I.ok.hd hc
    refine wpAny_pyNext_zipD2_end D.sep (drawsK k1 hd i1 a D.ai its.toArray) (drawsK k2 hd i2 b D.bi jts.toArray) hz hT hO ⟨h1, p1⟩ ⟨h2, p2⟩ (Nat.le_of_eq n1) (Nat.le_of_eq n2) (.inl n1) fun h' tk kp => ⟨rfl, ?_⟩
    exact I.turnedL (ch := [z, TI, TO, i1, i2]) (fun c o nc q => kp c o (fun e => nc (by rw [e]; simp)) (fun e => nc (by rw [e]; simp)) (fun e => nc (by rw [e]; simp)) (fun e => nc (by rw [e]; simp)) q) hf
  self := fun A i s Q E st h => wpAny_pyIter_zip st.1 h
def iZipK (K : PySem.W.Frag) (ta : TA) : TI := fun σ H R => ta σ H fun vs H1 => ∃ k1 k2 a b xs ys, vs = [.ref a, .ref b] ∧ Sk K k1 H1 a xs ∧ Sk K k2 H1 b ys ∧ R (ItzK K k1 k2 a b) H1
set_option maxHeartbeats 600000 in
theorem pi_zipK {X : Cx} {e e2 : Expr} {ta : TA} {p pos tpos : Pos} {elts : List Expr} {kk : Nat} (hg : Gl X "zip") (hm : X.mg "zip" = none) (ha : PA X [e, e2] ta)
    (hs : starEach [e, e2] X.env = (false, eval e X.env) :: starEach [e2] X.env := by rfl) (hpl : (backTo pos (starEach [e2] X.env)).any (·.1) = false := by rfl) :
    PI X (.Tuple elts kk tpos) (.Call (.Name "zip" p) [e, e2] [] pos) (iZipK X.K ta) := by
  constructor
  intro pins s σ H R I h
  refine Call_ (ld_blt I hg hm PyProof.Rows.boot_zip (PyProof.Rows.callWith_type1 (thn (ha.run pos pins s σ H _ I h) fun us s1 ⟨vs, H1, I1, r1, q1⟩ => ?_) hs hpl))
  obtain ⟨k1, k2, a, b, xs, ys, ev, qx, qy, q⟩ := q1
  subst ev
  obtain ⟨u1, u2, rfl, ra, rb⟩ := vals2 r1
  obtain rfl : u1 = Value.ref a := ra
  obtain rfl : u2 = Value.ref b := rb
  obtain ⟨its, _, p1⟩ := sk_read I1 qx
  obtain ⟨jts, _, p2⟩ := sk_read I1 qy
  refine zip_begins2 (beginsK k1 a its.toArray) (beginsK k2 b jts.toArray) p1 p2 fun h' hz hT hO g1 g2 _ kp => wpAny_pyIter_zip hz ?_
  have J : Inv X pins σ H1 { s1 with heap := h' } := I1.kept (t' := s1.toks) kp
  have D := cells_of s1.heap.objs.size a b (seqK_lt p1) (seqK_lt p2)
  have W : Now k1 k2 (s1.heap.objs.size + 4) (s1.heap.objs.size + 2) (s1.heap.objs.size + 3) s1.heap.objs.size (s1.heap.objs.size + 1) a b 0 h' := ⟨hz, hT, ⟨_, _, hO⟩, atK_beg g1, atK_beg g2⟩
  have F : ∀ c ∈ [s1.heap.objs.size + 4, s1.heap.objs.size + 2, s1.heap.objs.size + 3, s1.heap.objs.size, s1.heap.objs.size + 1], FpOk X pins H1 c := fun c hc => by
    have le : s1.heap.objs.size ≤ c := by
      rcases five hc with e | e | e | e | e
      · rw [e]; exact Nat.le_add_right _ _
      · rw [e]; exact Nat.le_add_right _ _
      · rw [e]; exact Nat.le_add_right _ _
      · rw [e]; exact Nat.le_refl _
      · rw [e]; exact Nat.le_add_right _ _
    exact I1.fpOk le (I1.hok.fresh le)
  exact ⟨_, _, _, _, H1, rfl, J, turn_zipK D, W, F, q⟩
theorem walk_zipK {K : PySem.W.Frag} {k1 k2 : Bool} {a b : Addr} {xs ys : List V} {n : Nat} (h1 : xs.length = n) (h2 : ys.length = n) : Walk (ItzK K k1 k2 a b) n (fun H => Sk K k1 H a xs ∧ Sk K k2 H b ys) (YPair (fun i => xs[i]?) (fun i => ys[i]?)) :=
  ⟨fun i H hi g => ⟨xs, ys, xs[i], ys[i], g.1, g.2, List.getElem?_eq_getElem (by omega), List.getElem?_eq_getElem (by omega)⟩, fun H g => ⟨xs, ys, g.1, g.2, h1, h2⟩,
    fun i H x H' _ g y => by
      obtain ⟨T, u, v, e1, e2, e3, e4, e5⟩ := y
      exact ⟨T, u, v, e1, e2, e3, e4 _ g.1, e5 _ g.2⟩⟩
end HwZ

/-! ### any of a tuple of ints; the least common multiple -/
namespace HwA
open PySem PySem.Spec PyProof.Rows L2
section
variable {X : Cx}
theorem any_bools (ns : List Int) : ∀ (bs : List Bool), bs = ns.map (fun n => n != 0) → (List.range ns.length).any (fun i => (ns.map fun n => n != 0).getD i false) = ns.any fun n => n != 0 := fun bs _ => by
  have h := any_range (ns.map fun n => n != 0)
  rw [List.length_map] at h
  rw [h, List.any_map]
  rfl
def rAnyT (K : PySem.W.Frag) : List V → Hp → VK → Prop := fun vs H Q => ∃ (a : Addr) (ns : List Int), vs = [V.ref a] ∧ SqT K H a (ns.map V.int) ∧ Q (.bl (ns.any fun n => n != 0)) H
theorem cr_anyT (hc : X.calm = true) : CallR X (.builtin "any") (rAnyT X.K) := by
  intro pins s σ H vs us Q I r h
  obtain ⟨a, ns, rfl, hs, q⟩ := h
  obtain ⟨its, rv, ht, _⟩ := I.tuple hs
  rw [Vals.ref1 r]
  have it : s.heap.IsTuple a its.toArray := ht
  have lt : a < s.heap.objs.size := by
    obtain ⟨_, e, _⟩ := it
    exact Heap.lt_size e
  refine call_any_walk (wpAny_pyIter_tuple it ⟨s.heap.objs.size, _, _, _, _, _, (fun i => (ns.map fun n => n != 0).getD i false), rfl, Walks.tuple (A := X.A.in1) (I.ok.hd hc) _ a (Nat.ne_of_lt lt) its.toArray, ⟨⟨_, Heap.get?_push_size _ rfl, rfl, rfl⟩, ?_⟩, ?_, fun h' tk hk => ?_⟩)
  · exact it.at fun o e => Heap.get?_push_of_some _ e
  · intro i v s' Q' E' hv hq
    have hv' : its[i]? = some v := by simpa using hv
    have lxs := rv.length
    have hi : i < ns.length := by
      have := (List.getElem?_eq_some_iff.mp hv').1
      rw [List.length_map] at lxs
      omega
    have g : (ns.map V.int)[i]? = some (.int ns[i]) := by
      rw [List.getElem?_map, List.getElem?_eq_getElem hi]
      rfl
    obtain ⟨u, hu, ru⟩ := rv.get g
    obtain ⟨t, eu⟩ := ru
    have ev : v = Value.int ns[i] t := (Option.some.inj (hv'.symm.trans hu)).trans eu
    subst ev
    have e2 : (ns.map fun n => n != 0).getD i false = (ns[i] != 0) := by
      rw [List.getD_eq_getElem?_getD, List.getElem?_map, List.getElem?_eq_getElem hi]
      rfl
    have hq2 : Q' ((ns.map fun n => n != 0).getD i false) s' := hq
    rw [e2] at hq2
    exact truthy_int hq2
  · refine ⟨.bl _, H, I.kept fun b o eo => hk b o (fun m => ?_) (Heap.get?_push_of_some _ eo), ?_, q⟩
    · rcases List.mem_cons.mp m with e1 | m
      · exact absurd (e1 ▸ Heap.lt_size eo) (Nat.lt_irrefl _)
      · cases m
    · show Value.bool _ = Value.bool _
      have l1 := rv.length
      rw [List.length_map] at l1
      rw [List.size_toArray, ← l1, any_bools ns _ rfl]
/-- the least common multiple -/
def rLcm : List V → Hp → VK → Prop := fun vs H Q => ∃ a b : Int, vs = [.int a, .int b] ∧ a.natAbs < 2 ^ 4000 ∧ b.natAbs < 2 ^ 4000 ∧ Q (.int ((Nat.lcm a.natAbs b.natAbs : Nat) : Int)) H
theorem lcm_lim {a b : Nat} (ha : a < 2 ^ 4000) (hb : b < 2 ^ 4000) : Nat.lcm a b < 2 ^ 8000 := by
  have h1 : Nat.lcm a b ≤ a * b := by
    unfold Nat.lcm
    exact Nat.div_le_self _ _
  have h2 : a * b < 2 ^ 4000 * 2 ^ 4000 := Nat.mul_lt_mul'' ha hb
  rw [← Nat.pow_add] at h2
  exact Nat.lt_of_le_of_lt h1 h2
theorem cr_lcm : CallR X (.builtin "math.lcm") rLcm := by
  intro pins s σ H vs us Q I r h
  obtain ⟨a, b, rfl, ha, hb, q⟩ := h
  obtain ⟨t, u, rfl⟩ := Vals.int2 r
  have lg : ∀ n : Nat, n < 2 ^ 4000 → n.log2 < 4000 := fun n hn => PySem.Flt.log2_lt_of (by decide) hn
  have one : (1 : Nat) < 2 ^ 4000 := Nat.one_lt_two_pow (by decide)
  have m1 : (max 1 a.natAbs).log2 < 4000 := lg _ (by rw [Nat.max_lt]; exact ⟨one, ha⟩)
  have m2 : (max a.natAbs b.natAbs).log2 < 4000 := lg _ (by rw [Nat.max_lt]; exact ⟨ha, hb⟩)
  have e : (Nat.lcm 1 a.natAbs).lcm b.natAbs = Nat.lcm a.natAbs b.natAbs := by rw [Nat.lcm_one_left]
  have sz : ((((Nat.lcm 1 a.natAbs).lcm b.natAbs : Nat) : Int)).natAbs.log2 < bitsLine := by
    rw [e, Int.natAbs_natCast]
    have : (Nat.lcm a.natAbs b.natAbs).log2 < 8000 := PySem.Flt.log2_lt_of (by decide) (lcm_lim ha hb)
    have b8 : (8000 : Nat) ≤ bitsLine := by decide
    omega
  refine PySem.call_function_meets PySem.W.MGF.kind_lcm PySem.W.MGF.plain_lcm PySem.W.MGF.entry_lcm (PySem.W.MGF.args_lcm _ _) (PySem.W.mg_run_lcm a t b u (by omega) (by omega) sz).meets ?_
  rw [e]
  exact ⟨.int _, H, I.tok _, ⟨_, rfl⟩, q⟩
end
end HwA

namespace HwP
open PySem PySem.Spec PyProof.Rows L2 Hw
open C8 (pss_cut tCut)
open HwG RZ HwZ HwA
def topS (i : Nat) : Stmt := PySem.Challenge.pw_hullwright_k09_points_and_inequalities_t.main.body.getD i (.Pass ⟨0, 0, 0, 0⟩)
/-- the built-in names that the text leaves as they are, and gcd -/
structure Glb (mg : Str → Option Value) : Prop where
  m_len : mg "len" = none
  m_range : mg "range" = none
  m_int : mg "int" = none
  m_list : mg "list" = none
  m_tuple : mg "tuple" = none
  m_bool : mg "bool" = none
  m_isinstance : mg "isinstance" = none
  m_abs : mg "abs" = none
  m_sum : mg "sum" = none
  m_zip : mg "zip" = none
  m_str : mg "str" = none
  m_any : mg "any" = none
  m_all : mg "all" = none
  m_gcd : mg "gcd" = some (.builtin "math.gcd")
/-- what a body that calls a def wants of it -/
structure Call (P : Program) (w : World) (K : PySem.W.Frag) (mg : Str → Option Value) (base : Heap) (k : Nat) (nm : Str) (ps : List Str) (sp : Sp) where
  g : Addr
  gd : FuncData
  G : FnOk P w K mg base CX0 k g gd ps sp
  m : mg nm = some (.ref g)
  kp : PySem.W.keepIn K (.ref g) = true
  b : Binds K gd ps []
section
variable {P : Program} {w : World} {K : PySem.W.Frag} {mg : Str → Option Value} {base : Heap}

/-! ### own error classes over ValueError -/
abbrev VE : List Value := [.type "ValueError", .type "Exception", .type "BaseException", .type "object"]
/-- what the written part says of the class nm at C -/
structure Er (K : PySem.W.Frag) (mg : Str → Option Value) (nm : Str) (C : Addr) : Prop where
  g : mg nm = some (.ref C)
  x : PySem.W.excIn K C VE "ValueError.__new__" = true
  k : PySem.W.keepIn K (.ref C) = true
  b : PySem.W.subIn K (.ref C) (.type "BaseException") = some true
  t : PySem.W.typeIn K (.ref C) = some (.type "type")
  d : PySem.W.hasDictIn K C = true
  s : PySem.W.subIn K (.ref C) (.ref C) = some true
theorem Er.em {K : PySem.W.Frag} {mg : Str → Option Value} {nm : Str} {C : Addr} (T : Er K mg nm C) : PySem.W.exmOne K (.ref C) (.ref C) = some true := PySem.W.exm_ref T.b T.d T.t T.s
def rE (K : PySem.W.Frag) (D a : Addr) (cls : Value) (d : Option Addr) : List V → Hp → VK → Prop := fun xs H Q => cls = .ref D ∧ d = none ∧ rIsE K D a xs H Q
section
variable {X : Cx}
/-- raise nm('..') -/
theorem raiseE {W : WX} {nm : Str} {C : Addr} {m : Str} {j : Nat} {p p2 pos pos2 : Pos} (T : Er X.K X.mg nm C) (hc : X.calm = true) (tk : Takes X W) (hg : Gl X nm) (hdb : (nm == ("__debug__" : Str)) = false := by decide) :
    PS X (.Raise (some (.Call (.Name nm p) [.Constant (.str m) j p2] [] pos)) none pos2) (fun _ σ H => W (.ref C) none σ H) :=
  ps_raise hc tk (pmk_own PySem.F.excBase_ValueError T.x T.g T.k (raises_own T.b T.t) hg hdb)
/-- isinstance of the error that the suite holds -/
theorem call_isE2 {a D : Addr} {cls : Value} {d : Option Addr} {oe : Obj} {pn : List (Addr × Obj)} (C : ExcC X.K D) (hz : Zc cls d oe) (hf : ∃ vs, oe.data = .fields vs) : CallR (X.suite a ((a, oe) :: pn)) (.builtin "isinstance") (rE X.K D a cls d) := by
  intro pins s σ H xs us Q I r h
  obtain ⟨rfl, rfl, h⟩ := h
  exact call_isE C hz hf pins s σ H xs us Q I r h
end

/-! ### the law's greatest common divisor -/
abbrev s__law_gcd : Stmt := topS 14
theorem sc__law_gcd : FnScope ["a", "b", "k", "hold"] ["a", "b"] (defScope s__law_gcd) := ⟨rfl, rfl, rfl, by decide +kernel, rfl, by decide +kernel, by decide +kernel⟩
def spGcd : Sp := fun vs H Q _ => ∃ a b : Int, vs = [.int a, .int b] ∧ a.natAbs < 2 ^ 299 ∧ b.natAbs < 2 ^ 299 ∧ Q (.int (g2 a b)) H
theorem abs_of (a : Int) : (if a < 0 then -a else a) = ((a.natAbs : Nat) : Int) := by
  split <;> omega
theorem ok_gcd {f : Addr} {fd : FuncData} {k : Nat} (F : Fun K "_law_gcd" "_law_gcd" s__law_gcd f fd) (Z : Glb mg) : FnOk P w K mg base CX0 (k + 1) f fd ["a", "b"] spGcd := by
  refine F.ok sc__law_gcd (fun vs H Q E h => ?_) (fun cdv A outer s H vs Q E hr h => ?_)
  · obtain ⟨a, b, rfl, _⟩ := h
    rfl
  · obtain ⟨a, b, rfl, ha, hb, q⟩ := h
    refine ⟨_, (pss_cons (ps_set (i := 0) sc__law_gcd.nd rfl (.inl rfl) (pe_callB call_abs (by rfl) Z.m_abs (by decide +kernel) (pa_cons (pv 0) pa_nil)))
      (pss_cons (ps_set (i := 1) sc__law_gcd.nd rfl (.inl rfl) (pe_callB call_abs (by rfl) Z.m_abs (by decide +kernel) (pa_cons (pv 1) pa_nil)))
      (pss_cons (ps_for PassesOwn.never rfl (pi_range1 rfl Z.m_range (pa_cons pe_int pa_nil)) (pg_name (i := 2) sc__law_gcd.nd rfl (.inl rfl)) (pss_cons (ps_if (pt_cmpR op_eq (pv 1) pe_int (nomark _)) (pss_one ps_break) pss_nil)
      (pss_cons (ps_set (i := 3) sc__law_gcd.nd rfl (.inl rfl) (pe_op op_modN (pe_callTy call_int1 (by rfl) Z.m_int (by decide +kernel) (pa_cons (pv 0) pa_nil)) (pv 1)))
      (pss_cons (ps_set (i := 0) sc__law_gcd.nd rfl (.inl rfl) (pv 1))
      (pss_one (ps_set (i := 1) sc__law_gcd.nd rfl (.inl rfl) (pv 3)))))))
      (pss_one (ps_ret (pv 0)))))), ?_⟩
    refine ⟨_, rfl, a, rfl, _, rfl, b, rfl, 600, rfl, by decide, by decide, ?_⟩
    rw [abs_of, abs_of]
    refine for_range (lo := 0) (n := 600) (fun i σ H' => H' = H ∧ ∃ (A B : Nat) (y2 y3 : Option V), σ = [some (.int A), some (.int B), y2, y3] ∧ Nat.gcd A B = Nat.gcd a.natAbs b.natAbs ∧ Fit i A B) ⟨rfl, _, _, _, _, rfl, rfl, fit0 ha hb⟩ (fun i σ H' hi hP => ?_) (fun σ H' hP => ?_)
    · obtain ⟨rfl, A', B', y2, y3, rfl, hg, hf⟩ := hP
      refine ⟨_, rfl, rfl, _, rfl, ite2 (fun e => ?_) (fun e => ?_)⟩
      · have e0 : B' = 0 := by
          have := V.int.inj (of_decide_eq_true e)
          omega
        subst e0
        refine ⟨_, rfl, ?_⟩
        rw [Nat.gcd_zero_right] at hg
        rw [hg]
        exact q
      · have e0 : B' ≠ 0 := fun z => e (by subst z; exact decide_eq_true rfl)
        refine ⟨_, rfl, .inl ⟨_, rfl, _, rfl, _, _, rfl, rfl, by omega, ?_⟩⟩
        have em : ((A' : Int).fmod (B' : Int)) = ((A' % B' : Nat) : Int) := by
          rw [Int.fmod_eq_emod_of_nonneg _ (by omega)]
          rfl
        refine ⟨_, rfl, _, rfl, rfl, B', A' % B', some (.int (0 + (i : Int))), some (.int ((A' % B' : Nat) : Int)), ?_, ?_, fit_step hf e0⟩
        · rw [← em]
          rfl
        · rw [gcd_turn, hg]
    · obtain ⟨rfl, A', B', y2, y3, rfl, hg, hf⟩ := hP
      have e0 := fit_end hf
      subst e0
      rw [Nat.gcd_zero_right] at hg
      refine ⟨_, rfl, ?_⟩
      rw [hg]
      exact q

/-! ### the law's draws: what they leave is told by bounds alone -/
abbrev s__law_spread : Stmt := topS 11
theorem sc__law_spread : FnScope ["cell", "mixed", "total", "k"] ["cell"] (defScope s__law_spread) := ⟨rfl, rfl, rfl, by decide +kernel, rfl, by decide +kernel, by decide +kernel⟩
def spSpread : Sp := fun vs H Q _ => ∃ c : Int, vs = [.int c] ∧ ∀ t : Int, Q (.int t) H
theorem ok_spread {f : Addr} {fd : FuncData} {k : Nat} (F : Fun K "_law_spread" "_law_spread" s__law_spread f fd) (Z : Glb mg) : FnOk P w K mg base CX0 (k + 1) f fd ["cell"] spSpread := by
  refine F.ok sc__law_spread (fun vs H Q E h => ?_) (fun cdv A outer s H vs Q E hr h => ?_)
  · obtain ⟨c, rfl, _⟩ := h
    rfl
  · obtain ⟨c, rfl, q⟩ := h
    refine ⟨_, (pss_cons (ps_set (i := 1) sc__law_spread.nd rfl (.inl rfl) (pe_op op_modN (pe_callTy call_int1 (by rfl) Z.m_int (by decide +kernel) (pa_cons (pv 0) pa_nil)) pe_int))
      (pss_cons (ps_set (i := 2) sc__law_spread.nd rfl (.inl rfl) pe_int)
      (pss_cons (ps_for PassesOwn.never rfl (pi_range1 rfl Z.m_range (pa_cons pe_int pa_nil)) (pg_name (i := 3) sc__law_spread.nd rfl (.inl rfl)) (pss_cons (ps_set (i := 1) sc__law_spread.nd rfl (.inl rfl) (pe_op op_modN (pe_callTy call_int1 (by rfl) Z.m_int (by decide +kernel) (pa_cons (pe_op op_add (pe_op op_add (pe_op op_mul (pv 1) pe_int) pe_int) (pv 3)) pa_nil)) pe_int))
      (pss_one (ps_set (i := 2) sc__law_spread.nd rfl (.inl rfl) (pe_op op_add (pe_op op_mul (pv 2) pe_int) (pv 1))))))
      (pss_one (ps_ret (pv 2)))))), ?_⟩
    refine ⟨_, rfl, .inl ⟨_, rfl, _, _, rfl, rfl, (by show (2147483647 : Int) ≠ 0; decide), 4, rfl, by decide, by decide, ?_⟩⟩
    refine for_range (lo := 0) (n := 4) (fun i σ H' => H' = H ∧ ∃ (m t : Int) (y3 : Option V), σ = [some (.int c), some (.int m), some (.int t), y3]) ⟨rfl, _, _, _, rfl⟩ (fun i σ H' hi hP => ?_) (fun σ H' hP => ?_)
    · obtain ⟨rfl, m, t, y3, rfl⟩ := hP
      refine ⟨_, rfl, _, _, rfl, rfl, .inr ⟨by decide, by decide⟩, _, _, rfl, rfl, _, rfl, _, _, rfl, rfl, .inl ⟨_, rfl, _, _, rfl, rfl, (by show (2147483647 : Int) ≠ 0; decide), ?_⟩⟩
      exact ⟨_, rfl, _, _, rfl, rfl, .inr ⟨by decide, by decide⟩, _, rfl, _, _, rfl, rfl, rfl, _, _, _, rfl⟩
    · obtain ⟨rfl, m, t, y3, rfl⟩ := hP
      exact ⟨_, rfl, q t⟩
/-- a pool: its script's ints, then four ints -/
def Pl (H : Hp) (p : Addr) : Prop := ∃ (q : Addr) (ns : List Int) (a : Nat) (b c d : Int), H p = some (.lst [.ref q, .int a, .int b, .int c, .int d]) ∧ H q = some (.lst (ns.map V.int)) ∧ q ≠ p
/-- the head of the list at p -/
def Hd (H : Hp) (p q : Addr) : Prop := ∃ l, H p = some (.lst (.ref q :: l))
/-- all but p is as it was, and p has its head -/
def But (p : Addr) (H H' : Hp) : Prop := (∀ x, x ≠ p → H' x = H x) ∧ ∀ q, Hd H p q → Hd H' p q
theorem But.refl (p : Addr) (H : Hp) : But p H H := ⟨fun _ _ => rfl, fun _ h => h⟩
theorem But.trans {p : Addr} {H H1 H2 : Hp} (a : But p H H1) (b : But p H1 H2) : But p H H2 := ⟨fun x h => (b.1 x h).trans (a.1 x h), fun q h => b.2 q (a.2 q h)⟩
theorem But.upd {p q : Addr} {H : Hp} {l l' : List V} (hp : H p = some (.lst (.ref q :: l))) : But p H (upd H p (.lst (.ref q :: l'))) :=
  ⟨fun _ h => upd_ne h, fun q' h => by
    obtain ⟨l2, e⟩ := h
    have := hp.symm.trans e
    injection this with this
    injection this with this
    injection this with this
    injection this with this
    subst this
    exact ⟨l', upd_same⟩⟩
theorem pl_upd {H : Hp} {p q : Addr} {ns : List Int} (a : Nat) (b c d : Int) (hq : H q = some (.lst (ns.map V.int))) (ne : q ≠ p) : Pl (upd H p (.lst [.ref q, .int a, .int b, .int c, .int d])) p :=
  ⟨q, ns, a, b, c, d, upd_same, by rw [upd_ne ne]; exact hq, ne⟩
abbrev s__law_draw : Stmt := topS 12
theorem sc__law_draw : FnScope ["pool", "many", "cell", "mixed", "value"] ["pool", "many"] (defScope s__law_draw) := ⟨rfl, rfl, rfl, by decide +kernel, rfl, by decide +kernel, by decide +kernel⟩
def spDraw : Sp := fun vs H Q _ => ∃ (p : Addr) (m : Int), vs = [.ref p, .int m] ∧ 0 < m ∧ m.natAbs < 2 ^ 8000 ∧ Pl H p ∧ ∀ (v : Int) (H' : Hp), 0 ≤ v → v < m → Pl H' p → But p H H' → Q (.int v) H'
theorem ok_draw {f : Addr} {fd : FuncData} {k : Nat} (F : Fun K "_law_draw" "_law_draw" s__law_draw f fd) (Z : Glb mg)
    (C_law_spread : Call P w K mg base k "_law_spread" ["cell"] spSpread) : FnOk P w K mg base CX0 (k + 1) f fd ["pool", "many"] spDraw := by
  refine F.ok sc__law_draw (fun vs H Q E h => ?_) (fun cdv A outer s H vs Q E hr h => ?_)
  · obtain ⟨p, m, rfl, _⟩ := h
    rfl
  · obtain ⟨p, m, rfl, hm, hb, hP, q⟩ := h
    refine ⟨_, (pss_cut (ps_if (PW.pt (pw_and (pt_cmpR op_le (pe_ix (r := rIxL K) ix_list (pv 0) pe_int (fun _ _ => rfl)) pe_int (nomark _)) (pw_and1 (pt_cmpR op_lt (pe_ix (r := rIxL K) ix_list (pv 0) pe_int (fun _ _ => rfl)) (pe_callB call_len_seq (by rfl) Z.m_len PySem.boot_len (pa_cons (pe_ix (r := rIxL K) ix_list (pv 0) pe_int (fun _ _ => rfl)) pa_nil)) (nomark _))))) (pss_cons (ps_set (i := 2) sc__law_draw.nd rfl (.inl rfl) (pe_ix (r := rIxL K) ix_list (pe_ix (r := rIxL K) ix_list (pv 0) pe_int (fun _ _ => rfl)) (pe_ix (r := rIxL K) ix_list (pv 0) pe_int (fun _ _ => rfl)) (fun _ _ => rfl)))
      (pss_cons (ps_asg (pe_op op_add (pe_ix (r := rIxL K) ix_list (pv 0) pe_int (fun _ _ => rfl)) pe_int) (pg_sub (pv 0) pe_int set_list))
      (pss_cons (ps_asg (pv 2) (pg_sub (pv 0) pe_int set_list))
      (pss_one (ps_if (pt_cmpR op_lt (pv 2) pe_int (nomark _)) (pss_one (ps_asg (pe_call C_law_spread.G hr (by rfl) C_law_spread.m C_law_spread.kp C_law_spread.b .nil pass0 (pa_cons (pv 2) pa_nil)) (pg_sub (pv 0) pe_int set_list))) pss_nil))))) pss_nil)
      (pss_cons (ps_asg (pe_op op_add (pe_ix (r := rIxL K) ix_list (pv 0) pe_int (fun _ _ => rfl)) pe_int) (pg_sub (pv 0) pe_int set_list))
      (pss_cons (ps_if (pt_cmpR op_le (pe_ix (r := rIxL K) ix_list (pv 0) pe_int (fun _ _ => rfl)) pe_int (nomark _)) (pss_cons (ps_set (i := 3) sc__law_draw.nd rfl (.inl rfl) (pe_op op_modN (pe_callTy call_int1 (by rfl) Z.m_int (by decide +kernel) (pa_cons (pe_op op_add (pe_op op_add (pe_op op_mul (pe_ix (r := rIxL K) ix_list (pv 0) pe_int (fun _ _ => rfl)) pe_int) (pe_op op_mul (pe_ix (r := rIxL K) ix_list (pv 0) pe_int (fun _ _ => rfl)) pe_int)) pe_int) pa_nil)) pe_int))
      (pss_cons (ps_set (i := 3) sc__law_draw.nd rfl (.inl rfl) (pe_op op_modN (pe_callTy call_int1 (by rfl) Z.m_int (by decide +kernel) (pa_cons (pe_op op_add (pe_op op_mul (pv 3) pe_int) (pe_ix (r := rIxL K) ix_list (pv 0) pe_int (fun _ _ => rfl))) pa_nil)) pe_int))
      (pss_one (ps_ret (pe_op op_modN (pe_op op_fdivN (pv 3) pe_int) (pv 1)))))) pss_nil)
      (pss_cons (ps_set (i := 4) sc__law_draw.nd rfl (.inl rfl) (pe_op op_modN (pe_callTy call_int1 (by rfl) Z.m_int (by decide +kernel) (pa_cons (pe_ix (r := rIxL K) ix_list (pv 0) pe_int (fun _ _ => rfl)) pa_nil)) (pv 1)))
      (pss_cons (ps_asg (pe_op op_fdivW (pe_ix (r := rIxL K) ix_list (pv 0) pe_int (fun _ _ => rfl)) (pv 1)) (pg_sub (pv 0) pe_int set_list))
      (pss_one (ps_ret (pv 4)))))))), ?_⟩
    refine ⟨fun σ H' => ∃ y2 : Option V, σ = [some (.ref p), some (.int m), y2, none, none] ∧ Pl H' p ∧ But p H H', ?_, ?_⟩
    · obtain ⟨q', ns, a, b, c, d, hp, hq, ne⟩ := hP
      refine ⟨_, rfl, _, _, _, _, rfl, rfl, SqL.of hp, atI_nat (j := 2) rfl, _, _, rfl, rfl, _, rfl, ite2 (fun e1 => ?_) (fun e1 => ?_)⟩
      · refine ⟨_, rfl, _, _, _, _, rfl, rfl, SqL.of hp, atI_nat (j := 1) rfl, _, rfl, _, _, _, _, rfl, rfl, SqL.of hp, atI_nat (j := 0) rfl, _, _, rfl, .inl (SqL.of hq), _, _, rfl, rfl, _, rfl, ite2 (fun e2 => ?_) (fun e2 => ?_)⟩
        · have e3 : a < ns.length := by
            have := of_decide_eq_true e2
            rw [List.length_map] at this
            omega
          have g1 : (ns.map V.int)[a]? = some (.int ns[a]) := by
            rw [List.getElem?_map, List.getElem?_eq_getElem e3]
            rfl
          -- cell = pool[0][pool[1]]
          refine ⟨_, rfl, _, _, _, _, rfl, rfl, SqL.of hp, atI_nat (j := 0) rfl, _, rfl, _, _, _, _, rfl, rfl, SqL.of hp, atI_nat (j := 1) rfl, _, _, _, _, rfl, rfl, SqL.of hq, atI_nat g1, ?_⟩
          -- pool[1] = pool[1] + 1
          refine ⟨_, rfl, _, _, _, _, rfl, rfl, SqL.of hp, atI_nat (j := 1) rfl, _, _, rfl, rfl, _, rfl, _, _, _, 1, rfl, rfl, hp, rfl, ?_⟩
          -- pool[2] = cell
          refine ⟨_, rfl, _, rfl, _, _, _, 2, rfl, rfl, upd_same, rfl, ?_⟩
          rw [upd_upd]
          refine ⟨_, rfl, _, _, rfl, rfl, _, rfl, ite2 (fun e4 => ?_) (fun e4 => ?_)⟩
          · refine ⟨_, rfl, _, rfl, fun t => ⟨_, rfl, _, _, _, 2, rfl, rfl, upd_same, rfl, ?_⟩⟩
            rw [upd_upd]
            exact ⟨some (.int ns[a]), rfl, pl_upd (a + 1) t c d hq ne, (But.upd hp)⟩
          · exact ⟨some (.int ns[a]), rfl, pl_upd (a + 1) ns[a] c d hq ne, (But.upd hp)⟩
        · exact ⟨none, rfl, ⟨q', ns, a, b, c, d, hp, hq, ne⟩, But.refl _ _⟩
      · exact iteF ⟨none, rfl, ⟨q', ns, a, b, c, d, hp, hq, ne⟩, But.refl _ _⟩
    · intro σ H1 hW
      obtain ⟨y2, rfl, ⟨q', ns, a, b, c, d, hp, hq, ne⟩, hB⟩ := hW
      -- pool[3] = pool[3] + 1
      refine ⟨_, rfl, _, _, _, _, rfl, rfl, SqL.of hp, atI_nat (j := 3) rfl, _, _, rfl, rfl, _, rfl, _, _, _, 3, rfl, rfl, hp, rfl, ?_⟩
      have h0 : (upd H1 p (.lst [.ref q', .int a, .int b, .int (c + 1), .int d])) p = some (.lst [.ref q', .int a, .int b, .int (c + 1), .int d]) := upd_same
      refine ⟨_, rfl, _, _, _, _, rfl, rfl, SqL.of h0, atI_nat (j := 2) rfl, _, _, rfl, rfl, _, rfl, ite2 (fun e1 => ?_) (fun e1 => ?_)⟩
      · refine ⟨_, rfl, _, _, _, _, rfl, rfl, SqL.of h0, atI_nat (j := 4) rfl, _, _, rfl, rfl, .inr ⟨by decide, by decide⟩, _, rfl, _, _, _, _, rfl, rfl, SqL.of h0, atI_nat (j := 3) rfl, _, _, rfl, rfl, .inr ⟨by decide, by decide⟩, _, _, rfl, rfl, _, _, rfl, rfl, .inl ⟨_, rfl, _, _, rfl, rfl, (by show (2147483647 : Int) ≠ 0; decide), ?_⟩⟩
        refine ⟨_, rfl, _, _, rfl, rfl, .inr ⟨by decide, by decide⟩, _, rfl, _, _, _, _, rfl, rfl, SqL.of h0, atI_nat (j := 3) rfl, _, _, rfl, rfl, .inl ⟨_, rfl, _, _, rfl, rfl, (by show (2147483629 : Int) ≠ 0; decide), ?_⟩⟩
        refine ⟨_, rfl, _, _, rfl, rfl, ⟨by decide, by decide⟩, _, rfl, _, _, rfl, rfl, (by show m ≠ 0; omega), ?_⟩
        exact q _ _ (Int.fmod_nonneg_of_pos _ hm) (Int.fmod_lt_of_pos _ hm) (pl_upd a b (c + 1) d hq ne) (hB.trans (But.upd hp))
      · refine ⟨_, rfl, _, _, _, _, rfl, rfl, SqL.of h0, atI_nat (j := 2) rfl, .inl ⟨_, rfl, _, rfl, _, _, rfl, rfl, (by show m ≠ 0; omega), ?_⟩⟩
        refine ⟨_, rfl, _, _, _, _, rfl, rfl, SqL.of h0, atI_nat (j := 2) rfl, _, rfl, _, _, rfl, rfl, wide_div hm hb (by decide) (by decide), _, rfl, _, _, _, 2, rfl, rfl, h0, rfl, ?_⟩
        rw [upd_upd]
        refine ⟨_, rfl, ?_⟩
        exact q _ _ (Int.fmod_nonneg_of_pos _ hm) (Int.fmod_lt_of_pos _ hm) (pl_upd a _ (c + 1) d hq ne) (hB.trans (But.upd hp))

/-! ### the law's pool -/
abbrev s__law_pool : Stmt := topS 10
theorem sc__law_pool : FnScope ["script", "salt", "cell"] ["script"] (defScope s__law_pool) := ⟨rfl, rfl, rfl, by decide +kernel, rfl, by decide +kernel, by decide +kernel⟩
theorem same_upd {H : Hp} {p : Addr} {o : HO} (h : H p = none) : Same H (upd H p o) := fun b x e => by
  rw [upd_ne (ne_of_none e h)]
  exact e
theorem cut_int {ns : List Int} {lo hi : Option Int} {i : Nat} {x : V} (h : (cutV (ns.map V.int) lo hi)[i]? = some x) : ∃ n : Int, x = .int n := by
  have m := List.mem_of_getElem? h
  unfold cutV at m
  have m2 := List.mem_of_mem_drop (List.mem_of_mem_take m)
  obtain ⟨n, _, e⟩ := List.mem_map.mp m2
  exact ⟨n, e.symm⟩
def spPool (K : PySem.W.Frag) : Sp := fun vs H Q _ => ∃ (a : Addr) (ns : List Int), vs = [.ref a] ∧ SqL K H a (ns.map V.int) ∧ ∀ (H' : Hp) (p : Addr), Same H H' → H p = none → Pl H' p → Q (.ref p) H'
theorem ok_pool {f : Addr} {fd : FuncData} {k : Nat} (F : Fun K "_law_pool" "_law_pool" s__law_pool f fd) (Z : Glb mg) : FnOk P w K mg base CX0 (k + 1) f fd ["script"] (spPool K) := by
  refine F.ok sc__law_pool (fun vs H Q E h => ?_) (fun cdv A outer s H vs Q E hr h => ?_)
  · obtain ⟨a, ns, rfl, _⟩ := h
    rfl
  · obtain ⟨a, ns, rfl, hS, q⟩ := h
    refine ⟨_, (pss_cons (ps_set (i := 1) sc__law_pool.nd rfl (.inl rfl) pe_int)
      (pss_cons (ps_for PassesOwn.never rfl (pi_list (pe_slice sl_list (pv 0) po_none (po_some pe_int))) (pg_name (i := 2) sc__law_pool.nd rfl (.inl rfl)) (pss_one (ps_set (i := 1) sc__law_pool.nd rfl (.inl rfl) (pe_op op_modN (pe_callTy call_int1 (by rfl) Z.m_int (by decide +kernel) (pa_cons (pe_op op_add (pe_op op_mul (pv 1) pe_int) (pv 2)) pa_nil)) pe_int))))
      (pss_one (ps_ret (pe_lst (pa_cons (pe_callTy call_list_of (by rfl) Z.m_list (by decide +kernel) (pa_cons (pv 0) pa_nil)) (pa_cons pe_int (pa_cons pe_int (pa_cons pe_int (pa_cons (pv 1) pa_nil)))))))))), ?_⟩
    refine ⟨_, rfl, _, rfl, a, ns.map V.int, rfl, hS, fun c nc => ?_⟩
    have s1 : Same H (upd H c (.lst (cutV (ns.map V.int) none (some 63)))) := same_upd nc
    refine ⟨c, rfl, ⟨_, SqL.of upd_same⟩, ?_⟩
    refine for_list (xs := cutV (ns.map V.int) none (some 63)) (fun i σ H' => H' = upd H c (.lst (cutV (ns.map V.int) none (some 63))) ∧ ∃ (m : Int) (y2 : Option V), σ = [some (.ref a), some (.int m), y2]) ⟨rfl, _, _, rfl⟩ (fun i σ H' _ hP => by obtain ⟨rfl, _⟩ := hP; exact SqL.of upd_same) (fun i x σ H' hx hP => ?_) (fun σ H' hP => ?_)
    · obtain ⟨rfl, m, y2, rfl⟩ := hP
      obtain ⟨n, rfl⟩ := cut_int hx
      exact ⟨_, rfl, _, _, rfl, rfl, .inr ⟨by decide, by decide⟩, _, rfl, _, _, rfl, rfl, .inl ⟨_, rfl, _, _, rfl, rfl, (by show (1000003 : Int) ≠ 0; decide), rfl, _, _, rfl⟩⟩
    · obtain ⟨rfl, m, y2, rfl⟩ := hP
      refine ⟨_, rfl, a, ns.map V.int, rfl, .inl (s1.seq hS), fun l nl => ⟨_, rfl, ?_, fun p np => ?_⟩⟩
      · exact Nat.le_of_lt (small1000 (show 5 ≤ 1000 by decide))
      · have s2 : Same (upd H c (.lst (cutV (ns.map V.int) none (some 63)))) (upd (upd H c (.lst (cutV (ns.map V.int) none (some 63)))) l (.lst (ns.map V.int))) := same_upd nl
        have lp : l ≠ p := ne_of_none upd_same np
        refine q _ _ ((s1.trans s2).trans (same_upd np)) ((s1.trans s2).free np) ⟨l, ns, 0, 0, 0, m, upd_same, ?_, lp⟩
        rw [upd_ne lp]
        exact upd_same

/-! ### the law's comparison of two answers: alike data is told to be the same -/
inductive Alike (H : Hp) : Nat → V → V → Prop where
  | int (n : Nat) (i : Int) : Alike H n (.int i) (.int i)
  | bl (n : Nat) (b : Bool) : Alike H n (.bl b) (.bl b)
  | non (n : Nat) : Alike H n .non .non
  | tup {n : Nat} {a b : Addr} {xs ys : List V} (ha : H a = some (.tup xs)) (hb : H b = some (.tup ys)) (hl : xs.length = ys.length) (hm : xs.length ≤ 1000000) (h : ∀ (i : Nat) (x y : V), xs[i]? = some x → ys[i]? = some y → Alike H n x y) : Alike H (n + 1) (.ref a) (.ref b)
  | lst {n : Nat} {a b : Addr} {xs ys : List V} (ha : H a = some (.lst xs)) (hb : H b = some (.lst ys)) (hl : xs.length = ys.length) (hm : xs.length ≤ 1000000) (h : ∀ (i : Nat) (x y : V), xs[i]? = some x → ys[i]? = some y → Alike H n x y) : Alike H (n + 1) (.ref a) (.ref b)
abbrev s__law_same : Stmt := topS 13
theorem sc__law_same : FnScope ["actual", "due", "k"] ["actual", "due"] (defScope s__law_same) := ⟨rfl, rfl, rfl, by decide +kernel, rfl, by decide +kernel, by decide +kernel⟩
def spSame (n : Nat) : Sp := fun vs H Q _ => ∃ x y : V, vs = [x, y] ∧ Alike H n x y ∧ Q (.bl true) H
structure SameG (mg : Str → Option Value) : Prop where
  mIs : mg "isinstance" = none
  mT : mg "tuple" = none
  mLi : mg "list" = none
  mL : mg "len" = none
  mR : mg "range" = none
  mB : mg "bool" = none
  mI : mg "int" = none
theorem ok_same {f : Addr} {fd : FuncData} {k n : Nat} (F : Fun K "_law_same" "_law_same" s__law_same f fd) (Z : Glb mg)
    (G : ∀ m, n = m + 1 → FnOk P w K mg base CX0 k f fd ["actual", "due"] (spSame m)) (gS : mg "_law_same" = some (.ref f)) (bS : Binds K fd ["actual", "due"] []) : FnOk P w K mg base CX0 (k + 1) f fd ["actual", "due"] (spSame n) := by
  refine F.ok sc__law_same (fun vs H Q E h => ?_) (fun cdv A outer s H vs Q E hr h => ?_)
  · obtain ⟨x, y, rfl, _⟩ := h
    rfl
  · obtain ⟨x, y, rfl, hA, q⟩ := h
    have nd := sc__law_same.nd
    cases hA with
    | int n i =>
      refine ⟨_, pss_cons (ps_if (PW.pt (pw_or (pt_val (pe_callB call_isi (by rfl) Z.m_isinstance (by decide +kernel) (pa_cons (pv 1) (pa_cons (pe_bltn (u := .type "tuple") (v := .ty "tuple") (by rfl) Z.m_tuple (by decide +kernel) rfl) pa_nil)))) (pw_or1 (pt_val (pe_callB call_isi (by rfl) Z.m_isinstance (by decide +kernel) (pa_cons (pv 1) (pa_cons (pe_bltn (u := .type "list") (v := .ty "list") (by rfl) Z.m_list (by decide +kernel) rfl) pa_nil))))))) (pss_cons ps_never (pss_cons ps_never (pss_cons ps_never (pss_one ps_never)))) pss_nil)
        (pss_cons (ps_if (pt_cmp (pc_isN (pv 1))) (pss_one ps_never) pss_nil)
        (pss_cons (ps_if (pt_val (pe_callB call_isi (by rfl) Z.m_isinstance (by decide +kernel) (pa_cons (pv 1) (pa_cons (pe_bltn (u := .type "bool") (v := .ty "bool") (by rfl) Z.m_bool (by decide +kernel) rfl) pa_nil)))) (pss_one ps_never) pss_nil)
        (pss_cons (ps_if (pt_val (pe_callB call_isi (by rfl) Z.m_isinstance (by decide +kernel) (pa_cons (pv 1) (pa_cons (pe_bltn (u := .type "int") (v := .ty "int") (by rfl) Z.m_int (by decide +kernel) rfl) pa_nil))))
          (pss_one (ps_ret (pe_and (pe_callB call_isi (by rfl) Z.m_isinstance (by decide +kernel) (pa_cons (pv 0) (pa_cons (pe_bltn (u := .type "int") (v := .ty "int") (by rfl) Z.m_int (by decide +kernel) rfl) pa_nil)))
            (pe_and (pe_not (pe_callB call_isi (by rfl) Z.m_isinstance (by decide +kernel) (pa_cons (pv 0) (pa_cons (pe_bltn (u := .type "bool") (v := .ty "bool") (by rfl) Z.m_bool (by decide +kernel) rfl) pa_nil))))
            (pe_one (pe_cmpR op_eq (pv 0) (pv 1) (nomark _))))))) pss_nil)
        (pss_one ps_never)))), ?_⟩
      have ty : TyX K H (.int i) (.type "int") := .base (.int i)
      refine ⟨_, rfl, _, _, _, _, _, rfl, ClsV.ty _, ty, kit_ty (by decide +kernel), false, rfl, iteF ⟨_, rfl, _, _, _, _, _, rfl, ClsV.ty _, ty, kit_ty (by decide +kernel), false, rfl, iteF ?_⟩⟩
      refine ⟨_, rfl, false, rfl, iteF ?_⟩
      refine ⟨_, rfl, _, _, _, _, _, rfl, ClsV.ty _, ty, kit_ty (by decide +kernel), false, rfl, iteF ?_⟩
      refine ⟨_, rfl, _, _, _, _, _, rfl, ClsV.ty _, ty, kit_ty (by decide +kernel), true, rfl, iteT ?_⟩
      refine ⟨_, rfl, _, _, _, _, _, rfl, ClsV.ty _, ty, kit_ty (by decide +kernel), true, rfl, iteT ?_⟩
      refine ⟨_, rfl, _, _, _, _, _, rfl, ClsV.ty _, ty, kit_ty (b := "bool") (r := false) (by decide +kernel), false, rfl, true, rfl, iteT ?_⟩
      refine ⟨_, rfl, _, rfl, rfl, ?_⟩
      rw [decide_eq_true rfl]
      exact q
    | bl n b =>
      refine ⟨_, pss_cons (ps_if (PW.pt (pw_or (pt_val (pe_callB call_isi (by rfl) Z.m_isinstance (by decide +kernel) (pa_cons (pv 1) (pa_cons (pe_bltn (u := .type "tuple") (v := .ty "tuple") (by rfl) Z.m_tuple (by decide +kernel) rfl) pa_nil)))) (pw_or1 (pt_val (pe_callB call_isi (by rfl) Z.m_isinstance (by decide +kernel) (pa_cons (pv 1) (pa_cons (pe_bltn (u := .type "list") (v := .ty "list") (by rfl) Z.m_list (by decide +kernel) rfl) pa_nil))))))) (pss_cons ps_never (pss_cons ps_never (pss_cons ps_never (pss_one ps_never)))) pss_nil)
        (pss_cons (ps_if (pt_cmp (pc_isN (pv 1))) (pss_one ps_never) pss_nil)
        (pss_cons (ps_if (pt_val (pe_callB call_isi (by rfl) Z.m_isinstance (by decide +kernel) (pa_cons (pv 1) (pa_cons (pe_bltn (u := .type "bool") (v := .ty "bool") (by rfl) Z.m_bool (by decide +kernel) rfl) pa_nil)))) (pss_one (ps_ret (pe_and (pe_callB call_isi (by rfl) Z.m_isinstance (by decide +kernel) (pa_cons (pv 0) (pa_cons (pe_bltn (u := .type "bool") (v := .ty "bool") (by rfl) Z.m_bool (by decide +kernel) rfl) pa_nil))) (pe_one (pe_cmpR op_eq (pv 0) (pv 1) (nomark _)))))) pss_nil)
        (pss_cons ps_never (pss_one ps_never)))), ?_⟩
      have ty : TyX K H (.bl b) (.type "bool") := .base (.bl b)
      refine ⟨_, rfl, _, _, _, _, _, rfl, ClsV.ty _, ty, kit_ty (by decide +kernel), false, rfl, iteF ⟨_, rfl, _, _, _, _, _, rfl, ClsV.ty _, ty, kit_ty (by decide +kernel), false, rfl, iteF ?_⟩⟩
      refine ⟨_, rfl, false, rfl, iteF ?_⟩
      refine ⟨_, rfl, _, _, _, _, _, rfl, ClsV.ty _, ty, kit_ty (by decide +kernel), true, rfl, iteT ?_⟩
      refine ⟨_, rfl, _, _, _, _, _, rfl, ClsV.ty _, ty, kit_ty (by decide +kernel), true, rfl, iteT ?_⟩
      refine ⟨_, rfl, _, rfl, rfl, ?_⟩
      rw [decide_eq_true rfl]
      exact q
    | non n =>
      refine ⟨_, pss_cons (ps_if (PW.pt (pw_or (pt_val (pe_callB call_isi (by rfl) Z.m_isinstance (by decide +kernel) (pa_cons (pv 1) (pa_cons (pe_bltn (u := .type "tuple") (v := .ty "tuple") (by rfl) Z.m_tuple (by decide +kernel) rfl) pa_nil)))) (pw_or1 (pt_val (pe_callB call_isi (by rfl) Z.m_isinstance (by decide +kernel) (pa_cons (pv 1) (pa_cons (pe_bltn (u := .type "list") (v := .ty "list") (by rfl) Z.m_list (by decide +kernel) rfl) pa_nil))))))) (pss_cons ps_never (pss_cons ps_never (pss_cons ps_never (pss_one ps_never)))) pss_nil)
        (pss_cons (ps_if (pt_cmp (pc_isN (pv 1))) (pss_one (ps_ret (pe_cmp (pc_isN (pv 0))))) pss_nil)
        (pss_cons ps_never (pss_cons ps_never (pss_one ps_never)))), ?_⟩
      have ty : TyX K H .non (.type "NoneType") := .base .non
      refine ⟨_, rfl, _, _, _, _, _, rfl, ClsV.ty _, ty, kit_ty (by decide +kernel), false, rfl, iteF ⟨_, rfl, _, _, _, _, _, rfl, ClsV.ty _, ty, kit_ty (by decide +kernel), false, rfl, iteF ?_⟩⟩
      refine ⟨_, rfl, true, rfl, iteT ?_⟩
      exact ⟨_, rfl, q⟩
    | @tup n a b xs ys ha hb hl hm hh =>
      refine ⟨_, pss_cons (ps_if (PW.pt (pw_or (pt_val (pe_callB call_isi (by rfl) Z.m_isinstance (by decide +kernel) (pa_cons (pv 1) (pa_cons (pe_bltn (u := .type "tuple") (v := .ty "tuple") (by rfl) Z.m_tuple (by decide +kernel) rfl) pa_nil)))) (pw_or1 (pt_val (pe_callB call_isi (by rfl) Z.m_isinstance (by decide +kernel) (pa_cons (pv 1) (pa_cons (pe_bltn (u := .type "list") (v := .ty "list") (by rfl) Z.m_list (by decide +kernel) rfl) pa_nil)))))))
        (pss_cons (ps_if (PW.pt (pw_or (pt_cmpR op_ne (pe_callB call_isi (by rfl) Z.m_isinstance (by decide +kernel) (pa_cons (pv 1) (pa_cons (pe_bltn (u := .type "tuple") (v := .ty "tuple") (by rfl) Z.m_tuple (by decide +kernel) rfl) pa_nil))) (pe_callB call_isi (by rfl) Z.m_isinstance (by decide +kernel) (pa_cons (pv 0) (pa_cons (pe_bltn (u := .type "tuple") (v := .ty "tuple") (by rfl) Z.m_tuple (by decide +kernel) rfl) pa_nil))) (nomark _)) (pw_or1 (pt_cmpR op_ne (pe_callB call_isi (by rfl) Z.m_isinstance (by decide +kernel) (pa_cons (pv 1) (pa_cons (pe_bltn (u := .type "list") (v := .ty "list") (by rfl) Z.m_list (by decide +kernel) rfl) pa_nil))) (pe_callB call_isi (by rfl) Z.m_isinstance (by decide +kernel) (pa_cons (pv 0) (pa_cons (pe_bltn (u := .type "list") (v := .ty "list") (by rfl) Z.m_list (by decide +kernel) rfl) pa_nil))) (nomark _))))) (pss_one ps_never) pss_nil)
          (pss_cons (ps_if (pt_cmpR op_ne (pe_callB call_len_seq (by rfl) Z.m_len PySem.boot_len (pa_cons (pv 0) pa_nil)) (pe_callB call_len_seq (by rfl) Z.m_len PySem.boot_len (pa_cons (pv 1) pa_nil)) (nomark _)) (pss_one ps_never) pss_nil)
          (pss_cons (ps_for PassesOwn.never rfl (pi_range1 rfl Z.m_range (pa_cons (pe_callB call_len_seq (by rfl) Z.m_len PySem.boot_len (pa_cons (pv 1) pa_nil)) pa_nil)) (pg_name (i := 2) nd rfl (.inl rfl))
            (pss_one (ps_if (pt_not (pt_val (pe_call (G _ rfl) hr (by rfl) gS F.kp bS .nil pass0 (pa_cons (pe_ix ix_tup (pv 0) (pv 2) (fun _ _ => rfl)) (pa_cons (pe_ix ix_tup (pv 1) (pv 2) (fun _ _ => rfl)) pa_nil))))) (pss_one ps_never) pss_nil)))
          (pss_one (ps_ret pe_bl))))) pss_nil)
        (pss_cons ps_never (pss_cons ps_never (pss_cons ps_never (pss_one ps_never)))), ?_⟩
      have ty0 : TyX K H (.ref a) (.type "tuple") := .base (.tup ha)
      have ty1 : TyX K H (.ref b) (.type "tuple") := .base (.tup hb)
      refine ⟨_, rfl, _, _, _, _, _, rfl, ClsV.ty _, ty1, kit_ty (b := "tuple") (r := true) (by decide +kernel), true, rfl, iteT ?_⟩
      refine ⟨_, rfl, _, _, _, _, _, rfl, ClsV.ty _, ty1, kit_ty (b := "tuple") (r := true) (by decide +kernel), _, rfl, _, _, _, _, _, rfl, ClsV.ty _, ty0, kit_ty (b := "tuple") (r := true) (by decide +kernel), rfl, false, rfl, iteF ⟨_, rfl, _, _, _, _, _, rfl, ClsV.ty _, ty1, kit_ty (b := "list") (r := false) (by decide +kernel), _, rfl, _, _, _, _, _, rfl, ClsV.ty _, ty0, kit_ty (b := "list") (r := false) (by decide +kernel), rfl, false, rfl, iteF ?_⟩⟩
      refine ⟨_, rfl, _, _, rfl, .inr (SqT.of ha), _, rfl, _, _, rfl, .inr (SqT.of hb), rfl, _, rfl, ?_⟩
      rw [hl, decide_eq_true rfl]
      refine iteF ⟨_, rfl, _, _, rfl, .inr (SqT.of hb), _, rfl, by omega, by omega, ?_⟩
      refine for_range (lo := 0) (n := ys.length) (fun i σ H' => H' = H ∧ ∃ y2 : Option V, σ = [some (.ref a), some (.ref b), y2]) ⟨rfl, _, rfl⟩ (fun i σ H' hi hP => ?_) (fun σ H' hP => ?_)
      · obtain ⟨rfl, y2, rfl⟩ := hP
        have g1 : xs[i]? = some xs[i] := List.getElem?_eq_getElem (by omega)
        have g2 : ys[i]? = some ys[i] := List.getElem?_eq_getElem hi
        have e0 : (0 : Int) + (i : Int) = ((i : Nat) : Int) := Int.zero_add _
        rw [e0]
        exact ⟨_, rfl, _, rfl, _, _, _, _, rfl, rfl, SqT.of ha, atI_nat g1, _, rfl, _, rfl, _, _, _, _, rfl, rfl, SqT.of hb, atI_nat g2, _, _, rfl, hh i _ _ g1 g2, true, rfl, iteF ⟨rfl, _, rfl⟩⟩
      · obtain ⟨rfl, y2, rfl⟩ := hP
        exact q
    | @lst n a b xs ys ha hb hl hm hh =>
      refine ⟨_, pss_cons (ps_if (PW.pt (pw_or (pt_val (pe_callB call_isi (by rfl) Z.m_isinstance (by decide +kernel) (pa_cons (pv 1) (pa_cons (pe_bltn (u := .type "tuple") (v := .ty "tuple") (by rfl) Z.m_tuple (by decide +kernel) rfl) pa_nil)))) (pw_or1 (pt_val (pe_callB call_isi (by rfl) Z.m_isinstance (by decide +kernel) (pa_cons (pv 1) (pa_cons (pe_bltn (u := .type "list") (v := .ty "list") (by rfl) Z.m_list (by decide +kernel) rfl) pa_nil)))))))
        (pss_cons (ps_if (PW.pt (pw_or (pt_cmpR op_ne (pe_callB call_isi (by rfl) Z.m_isinstance (by decide +kernel) (pa_cons (pv 1) (pa_cons (pe_bltn (u := .type "tuple") (v := .ty "tuple") (by rfl) Z.m_tuple (by decide +kernel) rfl) pa_nil))) (pe_callB call_isi (by rfl) Z.m_isinstance (by decide +kernel) (pa_cons (pv 0) (pa_cons (pe_bltn (u := .type "tuple") (v := .ty "tuple") (by rfl) Z.m_tuple (by decide +kernel) rfl) pa_nil))) (nomark _)) (pw_or1 (pt_cmpR op_ne (pe_callB call_isi (by rfl) Z.m_isinstance (by decide +kernel) (pa_cons (pv 1) (pa_cons (pe_bltn (u := .type "list") (v := .ty "list") (by rfl) Z.m_list (by decide +kernel) rfl) pa_nil))) (pe_callB call_isi (by rfl) Z.m_isinstance (by decide +kernel) (pa_cons (pv 0) (pa_cons (pe_bltn (u := .type "list") (v := .ty "list") (by rfl) Z.m_list (by decide +kernel) rfl) pa_nil))) (nomark _))))) (pss_one ps_never) pss_nil)
          (pss_cons (ps_if (pt_cmpR op_ne (pe_callB call_len_seq (by rfl) Z.m_len PySem.boot_len (pa_cons (pv 0) pa_nil)) (pe_callB call_len_seq (by rfl) Z.m_len PySem.boot_len (pa_cons (pv 1) pa_nil)) (nomark _)) (pss_one ps_never) pss_nil)
          (pss_cons (ps_for PassesOwn.never rfl (pi_range1 rfl Z.m_range (pa_cons (pe_callB call_len_seq (by rfl) Z.m_len PySem.boot_len (pa_cons (pv 1) pa_nil)) pa_nil)) (pg_name (i := 2) nd rfl (.inl rfl))
            (pss_one (ps_if (pt_not (pt_val (pe_call (G _ rfl) hr (by rfl) gS F.kp bS .nil pass0 (pa_cons (pe_ix ix_list (pv 0) (pv 2) (fun _ _ => rfl)) (pa_cons (pe_ix ix_list (pv 1) (pv 2) (fun _ _ => rfl)) pa_nil))))) (pss_one ps_never) pss_nil)))
          (pss_one (ps_ret pe_bl))))) pss_nil)
        (pss_cons ps_never (pss_cons ps_never (pss_cons ps_never (pss_one ps_never)))), ?_⟩
      have ty0 : TyX K H (.ref a) (.type "list") := .base (.lst ha)
      have ty1 : TyX K H (.ref b) (.type "list") := .base (.lst hb)
      refine ⟨_, rfl, _, _, _, _, _, rfl, ClsV.ty _, ty1, kit_ty (b := "tuple") (r := false) (by decide +kernel), false, rfl, iteF ⟨_, rfl, _, _, _, _, _, rfl, ClsV.ty _, ty1, kit_ty (b := "list") (r := true) (by decide +kernel), true, rfl, iteT ?_⟩⟩
      refine ⟨_, rfl, _, _, _, _, _, rfl, ClsV.ty _, ty1, kit_ty (b := "tuple") (r := false) (by decide +kernel), _, rfl, _, _, _, _, _, rfl, ClsV.ty _, ty0, kit_ty (b := "tuple") (r := false) (by decide +kernel), rfl, false, rfl, iteF ⟨_, rfl, _, _, _, _, _, rfl, ClsV.ty _, ty1, kit_ty (b := "list") (r := true) (by decide +kernel), _, rfl, _, _, _, _, _, rfl, ClsV.ty _, ty0, kit_ty (b := "list") (r := true) (by decide +kernel), rfl, false, rfl, iteF ?_⟩⟩
      refine ⟨_, rfl, _, _, rfl, .inl (SqL.of ha), _, rfl, _, _, rfl, .inl (SqL.of hb), rfl, _, rfl, ?_⟩
      rw [hl, decide_eq_true rfl]
      refine iteF ⟨_, rfl, _, _, rfl, .inl (SqL.of hb), _, rfl, by omega, by omega, ?_⟩
      refine for_range (lo := 0) (n := ys.length) (fun i σ H' => H' = H ∧ ∃ y2 : Option V, σ = [some (.ref a), some (.ref b), y2]) ⟨rfl, _, rfl⟩ (fun i σ H' hi hP => ?_) (fun σ H' hP => ?_)
      · obtain ⟨rfl, y2, rfl⟩ := hP
        have g1 : xs[i]? = some xs[i] := List.getElem?_eq_getElem (by omega)
        have g2 : ys[i]? = some ys[i] := List.getElem?_eq_getElem hi
        have e0 : (0 : Int) + (i : Int) = ((i : Nat) : Int) := Int.zero_add _
        rw [e0]
        exact ⟨_, rfl, _, rfl, _, _, _, _, rfl, rfl, SqL.of ha, atI_nat g1, _, rfl, _, rfl, _, _, _, _, rfl, rfl, SqL.of hb, atI_nat g2, _, _, rfl, hh i _ _ g1 g2, true, rfl, iteF ⟨rfl, _, rfl⟩⟩
      · obtain ⟨rfl, y2, rfl⟩ := hP
        exact q

/-- all but p is as it was, and there may be more -/
def Keep (p : Addr) (H H' : Hp) : Prop := ∀ x o, x ≠ p → H x = some o → H' x = some o
theorem But.keep {p : Addr} {H H' : Hp} (h : But p H H') : Keep p H H' := fun x o n e => (h.1 x n).trans e
theorem Keep.trans {p : Addr} {H H1 H2 : Hp} (a : Keep p H H1) (b : Keep p H1 H2) : Keep p H H2 := fun x o n e => b x o n (a x o n e)
theorem Keep.refl (p : Addr) (H : Hp) : Keep p H H := fun _ _ _ e => e
theorem Same.keep {p : Addr} {H H' : Hp} (h : Same H H') : Keep p H H' := fun x o _ e => h x o e
theorem Pl.lst {H : Hp} {p : Addr} (h : Pl H p) : ∃ xs, H p = some (.lst xs) := by
  obtain ⟨q, ns, a, b, c, d, e, _⟩ := h
  exact ⟨_, e⟩
theorem Pl.ne {H : Hp} {p x : Addr} {ys : List V} (h : Pl H p) (hx : H x = some (.tup ys)) : x ≠ p := by
  obtain ⟨xs, e⟩ := h.lst
  exact ne_of hx e (fun z => nomatch z)
theorem Pl.same {H H' : Hp} {p : Addr} (h : Pl H p) (s : Same H H') : Pl H' p := by
  obtain ⟨q, ns, a, b, c, d, e, e2, n⟩ := h
  exact ⟨q, ns, a, b, c, d, s _ _ e, s _ _ e2, n⟩
/-- a pool whose list stands at q -/
def Plq (H : Hp) (p q : Addr) : Prop := ∃ (ns : List Int) (a : Nat) (b c d : Int), H p = some (.lst [.ref q, .int a, .int b, .int c, .int d]) ∧ H q = some (.lst (ns.map V.int)) ∧ q ≠ p
theorem Pl.q {H : Hp} {p : Addr} (h : Pl H p) : ∃ q, Plq H p q := h
theorem Plq.pl {H : Hp} {p q : Addr} (h : Plq H p q) : Pl H p := ⟨q, h⟩
theorem Plq.but {H H' : Hp} {p q : Addr} (h : Plq H p q) (hB : But p H H') (h' : Pl H' p) : Plq H' p q := by
  obtain ⟨ns, a, b, c, d, e, e2, n⟩ := h
  obtain ⟨l, hl⟩ := hB.2 q ⟨_, e⟩
  obtain ⟨q2, ns2, a2, b2, c2, d2, f, f2, n2⟩ := h'
  have := hl.symm.trans f
  injection this with this
  injection this with this
  injection this with this
  injection this with this
  subst this
  exact ⟨ns2, a2, b2, c2, d2, f, f2, n2⟩
theorem Plq.upd {H : Hp} {p q D : Addr} {o : HO} (h : Plq H p q) (h1 : p ≠ D) (h2 : q ≠ D) : Plq (upd H D o) p q := by
  obtain ⟨ns, a, b, c, d, e, e2, n⟩ := h
  exact ⟨ns, a, b, c, d, by rw [upd_ne h1]; exact e, by rw [upd_ne h2]; exact e2, n⟩
theorem Plq.same {H H' : Hp} {p q : Addr} (h : Plq H p q) (s : Same H H') : Plq H' p q := by
  obtain ⟨ns, a, b, c, d, e, e2, n⟩ := h
  exact ⟨ns, a, b, c, d, s _ _ e, s _ _ e2, n⟩
theorem Plq.ne_free {H : Hp} {p q D : Addr} (h : Plq H p q) (n : H D = none) : p ≠ D ∧ q ≠ D := by
  obtain ⟨ns, a, b, c, d, e, e2, _⟩ := h
  exact ⟨ne_of_none e n, ne_of_none e2 n⟩

theorem cmul {x y : Int} {a b : Nat} (ha : x.natAbs < 2 ^ a) (hb : y.natAbs < 2 ^ b) (h0 : 0 < a := by decide) (h1 : 0 < b := by decide) (h : a + b ≤ 1000000 := by decide) : CMulW x y := wide_mul ha hb h0 h1 h

/-! ### vectors: tuples of ints -/
/-- the greatest common divisor of a list -/
def gl (ns : List Int) : Int := ns.foldl g2 0
theorem g2_max {c x : Int} {B : Nat} (hc : c.natAbs < B) (hx : x.natAbs < B) : (g2 c x).natAbs < B := by
  by_cases h : x = 0
  · subst h
    unfold g2
    rw [show (0 : Int).natAbs = 0 from rfl, Nat.gcd_zero_right]
    omega
  · exact Nat.lt_of_le_of_lt (g2_le h) hx
theorem g2_nn (a b : Int) : 0 ≤ g2 a b := by
  unfold g2
  omega
theorem gl_step {ns : List Int} {i : Nat} {x : Int} (h : ns[i]? = some x) : gl (ns.take (i + 1)) = g2 (gl (ns.take i)) x := by
  unfold gl
  rw [List.take_add_one, h, List.foldl_append]
  rfl
theorem gl_lim {ns : List Int} {B : Nat} (h0 : 0 < B) (h : ∀ n ∈ ns, n.natAbs < B) : (gl ns).natAbs < B := by
  unfold gl
  have : ∀ (l : List Int) (c : Int), c.natAbs < B → (∀ n ∈ l, n.natAbs < B) → (l.foldl g2 c).natAbs < B := by
    intro l
    induction l with
    | nil => intro c hc _; exact hc
    | cons x r ih =>
      intro c hc hl
      exact ih _ (g2_max hc (hl x List.mem_cons_self)) fun n hn => hl n (List.mem_cons_of_mem _ hn)
  exact this ns 0 (by show 0 < B; exact h0) h
theorem gl_nn (ns : List Int) : 0 ≤ gl ns := by
  unfold gl
  have : ∀ (l : List Int) (c : Int), 0 ≤ c → 0 ≤ l.foldl g2 c := by
    intro l
    induction l with
    | nil => intro c hc; exact hc
    | cons x r ih => intro c _; exact ih _ (g2_nn _ _)
  exact this ns 0 (Int.le_refl 0)
theorem gl_take_lim {ns : List Int} {B i : Nat} (h0 : 0 < B) (h : ∀ n ∈ ns, n.natAbs < B) : (gl (ns.take i)).natAbs < B := gl_lim h0 fun n hn => h n (List.mem_of_mem_take hn)
def prim (ns : List Int) : List Int := if gl ns = 0 then ns else ns.map (· / gl ns)
def dotz (ns ms : List Int) : List Int := (ns.zip ms).map fun p => p.1 * p.2
theorem prim_len (ns : List Int) : (prim ns).length = ns.length := by
  unfold prim
  split
  · rfl
  · rw [List.length_map]
theorem map_get {ns : List Int} {i : Nat} {x : V} (h : (ns.map V.int)[i]? = some x) : ∃ n, ns[i]? = some n ∧ x = .int n := by
  rw [List.getElem?_map] at h
  cases e : ns[i]? with
  | none => rw [e] at h; cases h
  | some n => rw [e] at h; exact ⟨n, rfl, (Option.some.inj h).symm⟩
theorem get_map {ns : List Int} {i : Nat} {n : Int} (h : ns[i]? = some n) : (ns.map V.int)[i]? = some (.int n) := by
  rw [List.getElem?_map, h]
  rfl
theorem lt_of_get {α : Type} {xs : List α} {i : Nat} {x : α} (h : xs[i]? = some x) : i < xs.length := (List.getElem?_eq_some_iff.mp h).1
/-- the vector at a -/
def Vc (H : Hp) (a : Addr) (ns : List Int) : Prop := H a = some (.tup (ns.map V.int))
theorem vc_alike {H : Hp} {a b : Addr} {ns : List Int} (n : Nat) (ha : Vc H a ns) (hb : Vc H b ns) (hl : ns.length ≤ 1000) : Alike H (n + 1) (.ref a) (.ref b) :=
  .tup ha hb rfl (by rw [List.length_map]; omega) fun i x y h1 h2 => by
    have e := Option.some.inj (h1.symm.trans h2)
    subst e
    obtain ⟨m, _, rfl⟩ := map_get h1
    exact .int n m
theorem Vc.ne {H : Hp} {p a : Addr} {ns : List Int} (h : Vc H a ns) (hp : Pl H p) : a ≠ p := hp.ne h
theorem Vc.keep {H H' : Hp} {p a : Addr} {ns : List Int} (h : Vc H a ns) (hp : Pl H p) (k : Keep p H H') : Vc H' a ns := k _ _ (h.ne hp) h
theorem Vc.same {H H' : Hp} {a : Addr} {ns : List Int} (h : Vc H a ns) (k : Same H H') : Vc H' a ns := k _ _ h
theorem dotz_get {ns ms : List Int} {i : Nat} {x y : Int} (h1 : ns[i]? = some x) (h2 : ms[i]? = some y) : (dotz ns ms)[i]? = some (x * y) := by
  unfold dotz
  rw [List.getElem?_map, List.getElem?_zip_eq_some (z := (x, y)) |>.mpr ⟨h1, h2⟩]
  rfl
theorem dotz_len {ns ms : List Int} (h : ns.length = ms.length) : (dotz ns ms).length = ns.length := by
  unfold dotz
  rw [List.length_map, List.length_zip, h, Nat.min_self]
theorem take_get {α : Type} {xs : List α} {i : Nat} {x : α} (h : xs[i]? = some x) : xs.take (i + 1) = xs.take i ++ [x] := by
  rw [List.take_add_one, h]
  rfl

/-! ### walks of a list or a tuple -/
section
variable {X : Cx}
theorem PI.or {tg iter : Expr} {w1 w2 : TI} (h1 : PI X tg iter w1) (h2 : PI X tg iter w2) : PI X tg iter (fun σ H R => w1 σ H R ∨ w2 σ H R) := ⟨fun pins s σ H R I h => by
  rcases h with h | h
  · exact h1.run pins s σ H R I h
  · exact h2.run pins s σ H R I h⟩
theorem OpR.or {f : Value → Value → Sem Value} {r1 r2 : R2} (h1 : OpR X f r1) (h2 : OpR X f r2) : OpR X f (fun x y H Q => r1 x y H Q ∨ r2 x y H Q) := by
  intro pins s σ H x y v u Q I rx ry q
  rcases q with q | q
  · exact h1 pins s σ H x y v u Q I rx ry q
  · exact h2 pins s σ H x y v u Q I rx ry q
end

/-- at a stands a tuple (true) or a list -/
def Tk (k : Bool) (H : Hp) (a : Addr) (xs : List V) : Prop := match k with
  | true => H a = some (.tup xs)
  | false => H a = some (.lst xs)
theorem Tk.same {k : Bool} {H H' : Hp} {a : Addr} {xs : List V} (h : Tk k H a xs) (s : Same H H') : Tk k H' a xs := by
  cases k <;> exact s _ _ h
theorem Tk.sk {K : PySem.W.Frag} {k : Bool} {H : Hp} {a : Addr} {xs : List V} (h : Tk k H a xs) : Sk K k H a xs := by
  cases k with
  | true => exact SqT.of h
  | false => exact SqL.of h
abbrev s__law_prim : Stmt := topS 15
theorem sc__law_prim : FnScope ["v", "common", "a"] ["v"] (defScope s__law_prim) := ⟨rfl, rfl, rfl, by decide +kernel, rfl, by decide +kernel, by decide +kernel⟩
def spPrimK : Sp := fun vs H Q _ => ∃ (k : Bool) (a : Addr) (ns : List Int), vs = [.ref a] ∧ Tk k H a (ns.map V.int) ∧ ns.length ≤ 1000 ∧ (∀ n ∈ ns, n.natAbs < 2 ^ 299) ∧ ∀ (H' : Hp) (r : Addr), Same H H' → Vc H' r (prim ns) → Q (.ref r) H'
theorem ok_lprimK {f : Addr} {fd : FuncData} {k : Nat} (F : Fun K "_law_prim" "_law_prim" s__law_prim f fd) (Z : Glb mg)
    (C_law_gcd : Call P w K mg base k "_law_gcd" ["a", "b"] spGcd) : FnOk P w K mg base CX0 (k + 1) f fd ["v"] spPrimK := by
  refine F.ok sc__law_prim (fun vs H Q E h => ?_) (fun cdv A outer s H vs Q E hr h => ?_)
  · obtain ⟨kd, a, ns, rfl, _⟩ := h
    rfl
  · obtain ⟨kd, a, ns, rfl, hv, hl, hB, q⟩ := h
    refine ⟨_, (pss_cons (ps_set (i := 1) sc__law_prim.nd rfl (.inr rfl) pe_int)
      (pss_cut (ps_for PassesOwn.never rfl (PI.or (pi_list (pv 0)) (pi_tup (pv 0))) (pg_name (i := 2) sc__law_prim.nd rfl (.inl rfl)) (pss_one (ps_set (i := 1) sc__law_prim.nd rfl (.inr rfl) (pe_call C_law_gcd.G hr (by rfl) C_law_gcd.m C_law_gcd.kp C_law_gcd.b .nil pass0 (pa_cons (pv 1) (pa_cons (pv 2) pa_nil))))))
      (pss_cons (ps_if (pt_cmpR op_eq (pv 1) pe_int (nomark _)) (pss_one (ps_ret (pe_callTy call_tuple_of (by rfl) Z.m_tuple (by decide +kernel) (pa_cons (pv 0) pa_nil)))) pss_nil)
      (pss_one (ps_ret (pe_callTy call_tuple_of (by rfl) Z.m_tuple (by decide +kernel) (pa_cons (pe_lc (own := [("a", 2)]) (g := gName 2) (tt := tYes) (by rfl) sc__law_prim.nd (PI.or (pi_list (pv 0)) (pi_tup (pv 0))) (blkOk_by (own := [("a", 2)]) (N := ["v", "common", "a"]) (sc := defScope s__law_prim) (by decide +kernel)) (fun _ _ _ _ _ => (pg_name (i := 2) sc__law_prim.nd rfl (.inl rfl))) (fun _ _ _ _ _ => pts_nil) (fun _ _ _ _ _ => (pe_op op_fdivW (pv 2) (pv 1)))) pa_nil))))))), ?_⟩
    -- common
    refine ⟨fun σ H' => ∃ y2 : Option V, H = H' ∧ σ = [some (.ref a), some (.int (gl ns)), y2], ?_, ?_⟩
    · cases kd with
      | true =>
        refine .inr ⟨_, rfl, a, rfl, ⟨_, SqT.of hv⟩, ?_⟩
        refine for_tup (xs := ns.map V.int) (fun i σ H' => H = H' ∧ ∃ y2 : Option V, σ = [some (.ref a), some (.int (gl (ns.take i))), y2]) ⟨rfl, _, rfl⟩ (fun i σ H' _ hP => by obtain ⟨rfl, _⟩ := hP; exact SqT.of hv) (fun i x σ H' hx hP => ?_) (fun σ H' hP => ?_)
        · obtain ⟨rfl, y2, rfl⟩ := hP
          obtain ⟨n, hn, rfl⟩ := map_get hx
          refine ⟨_, rfl, _, rfl, _, _, rfl, gl_take_lim (by decide) hB, hB n (List.mem_of_getElem? hn), rfl, some (.int n), ?_⟩
          rw [gl_step hn]
          rfl
        · obtain ⟨rfl, y2, rfl⟩ := hP
          rw [List.length_map, List.take_length]
          exact ⟨_, rfl, rfl⟩
      | false =>
        refine .inl ⟨_, rfl, a, rfl, ⟨_, SqL.of hv⟩, ?_⟩
        refine for_list (xs := ns.map V.int) (fun i σ H' => H = H' ∧ ∃ y2 : Option V, σ = [some (.ref a), some (.int (gl (ns.take i))), y2]) ⟨rfl, _, rfl⟩ (fun i σ H' _ hP => by obtain ⟨rfl, _⟩ := hP; exact SqL.of hv) (fun i x σ H' hx hP => ?_) (fun σ H' hP => ?_)
        · obtain ⟨rfl, y2, rfl⟩ := hP
          obtain ⟨n, hn, rfl⟩ := map_get hx
          refine ⟨_, rfl, _, rfl, _, _, rfl, gl_take_lim (by decide) hB, hB n (List.mem_of_getElem? hn), rfl, some (.int n), ?_⟩
          rw [gl_step hn]
          rfl
        · obtain ⟨rfl, y2, rfl⟩ := hP
          rw [List.length_map, List.take_length]
          exact ⟨_, rfl, rfl⟩
    intro σ H' hW
    obtain ⟨y2, rfl, rfl⟩ := hW
    refine ⟨_, rfl, rfl, _, rfl, ite2 (fun e => ?_) (fun e => ?_)⟩
    · have e0 : gl ns = 0 := V.int.inj (of_decide_eq_true e)
      have ep : prim ns = ns := if_pos e0
      refine ⟨_, rfl, a, ns.map V.int, rfl, ?_⟩
      cases kd with
      | true =>
        refine .inr ⟨SqT.of hv, q _ _ (Same.refl _) ?_⟩
        rw [ep]
        exact hv
      | false =>
        refine .inl ⟨SqL.of hv, fun l nl => q _ _ (same_upd nl) ?_⟩
        rw [ep]
        exact upd_same
    · have e0 : gl ns ≠ 0 := fun z => e (decide_eq_true (by rw [z]))
      have ep : prim ns = ns.map (· / gl ns) := if_neg e0
      have cd : ∀ x : Int, CDivW x (gl ns) := fun x => wide_div (by have := gl_nn ns; omega) (gl_lim (by decide) hB) (by decide) (by decide)
      have room : ∀ i, (((prim ns).take i).map V.int).length < sizeLine := fun i => by
        rw [List.length_map, List.length_take]
        exact Nat.lt_of_le_of_lt (Nat.min_le_right _ _) (small1000 (by rw [prim_len]; exact hl))
      have next : ∀ (i : Nat) (n : Int) (H0 : Hp) (D : Addr), ns[i]? = some n → upd (upd H0 D (.lst (((prim ns).take i).map V.int))) D (.lst (((prim ns).take i).map V.int ++ [.int (n / gl ns)])) = upd H0 D (.lst (((prim ns).take (i + 1)).map V.int)) := fun i n H0 D hn => by
        have hg : (prim ns)[i]? = some (n / gl ns) := by
          rw [ep, List.getElem?_map, hn]
          rfl
        rw [upd_upd, take_get hg, List.map_append]
        rfl
      have last : ∀ (D : Addr) (H' : Hp), (∃ H0, Same H H0 ∧ H0 D = none ∧ H' = upd H0 D (.lst (((prim ns).take (ns.map V.int).length).map V.int))) →
          ∃ p ys, [V.ref D] = [.ref p] ∧ ((SqL K H' p ys ∧ ∀ l, H' l = none → Q (.ref l) (upd H' l (.tup ys))) ∨ (SqT K H' p ys ∧ Q (.ref p) H')) := fun D H' h => by
        obtain ⟨H0, s0, n0, rfl⟩ := h
        rw [List.length_map, show ns.length = (prim ns).length from (prim_len ns).symm, List.take_length]
        exact ⟨D, _, rfl, .inl ⟨SqL.of upd_same, fun l nl => q _ _ ((s0.trans (same_upd n0)).trans (same_upd nl)) upd_same⟩⟩
      cases kd with
      | true =>
        refine .inr ⟨_, rfl, a, rfl, ⟨_, SqT.of hv⟩, fun D nD => ?_⟩
        refine lc_tup (xs := ns.map V.int) (fun i H' => ∃ H0, Same H H0 ∧ H0 D = none ∧ H' = upd H0 D (.lst (((prim ns).take i).map V.int))) ⟨H, Same.refl _, nD, rfl⟩ (fun i H' _ hP => ?_) (fun i x H' hx hP => ?_) (fun H' hP => ?_)
        · obtain ⟨H0, s0, n0, rfl⟩ := hP
          exact SqT.of ((s0.trans (same_upd n0)) _ _ hv)
        · obtain ⟨H0, s0, n0, rfl⟩ := hP
          obtain ⟨n, hn, rfl⟩ := map_get hx
          refine ⟨rfl, ?_⟩
          unfold tYes
          refine iteT ?_
          exact ⟨_, rfl, _, rfl, _, _, rfl, rfl, cd n, _, upd_same, room i, H0, s0, n0, next i n H0 D hn⟩
        · exact last D H' hP
      | false =>
        refine .inl ⟨_, rfl, a, rfl, ⟨_, SqL.of hv⟩, fun D nD => ?_⟩
        refine lc_list (xs := ns.map V.int) (fun i H' => ∃ H0, Same H H0 ∧ H0 D = none ∧ H' = upd H0 D (.lst (((prim ns).take i).map V.int))) ⟨H, Same.refl _, nD, rfl⟩ (fun i H' _ hP => ?_) (fun i x H' hx hP => ?_) (fun H' hP => ?_)
        · obtain ⟨H0, s0, n0, rfl⟩ := hP
          exact SqL.of ((s0.trans (same_upd n0)) _ _ hv)
        · obtain ⟨H0, s0, n0, rfl⟩ := hP
          obtain ⟨n, hn, rfl⟩ := map_get hx
          refine ⟨rfl, ?_⟩
          unfold tYes
          refine iteT ?_
          exact ⟨_, rfl, _, rfl, _, _, rfl, rfl, cd n, _, upd_same, room i, H0, s0, n0, next i n H0 D hn⟩
        · exact last D H' hP

/-! ### values of any kind -/
theorem cat_h {H : Hp} {a b : Addr} {xs ys : List V} {Q : VK} (ha : H a = some (.tup xs)) (hb : H b = some (.tup ys)) (hz : xs.length + ys.length ≤ 1000) (q : ∀ (H' : Hp) (r : Addr), Same H H' → H' r = some (.tup (xs ++ ys)) → Q (.ref r) H') : rCatA K (.ref a) (.ref b) H Q :=
  ⟨a, b, xs, ys, rfl, rfl, SqT.of ha, SqT.of hb, Nat.le_of_lt (small1000 hz), fun e => q _ _ (Same.refl _) (by rw [e]; exact hb), fun _ e => q _ _ (Same.refl _) (by rw [e, List.append_nil]; exact ha), fun _ _ p np => q _ _ (same_upd np) upd_same⟩
theorem cut_whole {xs : List V} {lo hi : Option Int} (h : HT.sIx xs.length 0 lo = 0 ∧ HT.sIx xs.length xs.length hi = xs.length) : cutV xs lo hi = xs := by
  unfold cutV
  rw [h.1, h.2]
  exact List.take_length
theorem sl_h {H : Hp} {a : Addr} {xs : List V} {lo hi : Option Int} {Q : VK} (ha : H a = some (.tup xs)) (q : ∀ (H' : Hp) (r : Addr), Same H H' → H' r = some (.tup (cutV xs lo hi)) → Q (.ref r) H') : rSlA K (.ref a) lo hi H Q :=
  ⟨a, xs, rfl, SqT.of ha, fun e => q _ _ (Same.refl _) (by rw [cut_whole e]; exact ha), fun _ p np => q _ _ (same_upd np) upd_same⟩
theorem cut_mem {xs : List V} {lo hi : Option Int} {x : V} (h : x ∈ cutV xs lo hi) : x ∈ xs := List.mem_of_mem_drop (List.mem_of_mem_take h)
theorem cut_take (xs : List V) (j : Nat) : cutV xs none (some (j : Int)) = xs.take j := by
  unfold cutV
  rw [HT.sIx_none, HT.sIx_nat, List.drop_zero, Nat.sub_zero]
  by_cases h : j ≤ xs.length
  · rw [Nat.min_eq_left h]
  · rw [Nat.min_eq_right (by omega), List.take_length, List.take_of_length_le (by omega)]
theorem cut_drop (xs : List V) (j : Nat) : cutV xs (some (j : Int)) none = xs.drop j := by
  unfold cutV
  rw [HT.sIx_none, HT.sIx_nat]
  by_cases h : j ≤ xs.length
  · rw [Nat.min_eq_left h]
    exact List.take_of_length_le (by rw [List.length_drop]; exact Nat.le_refl _)
  · rw [Nat.min_eq_right (by omega), Nat.sub_self, List.take_zero, List.drop_eq_nil_of_le (by omega)]
/-- a value of any kind, of depth n at most, its ints below 2 ^ B, its sequences not longer than B -/
inductive Dt (p : Addr) (H : Hp) (B : Nat) : Nat → V → Prop
  | non (n : Nat) : Dt p H B n .non
  | bl (n : Nat) (b : Bool) : Dt p H B n (.bl b)
  | int (n : Nat) (i : Int) (h : i.natAbs < 2 ^ B) : Dt p H B n (.int i)
  | str (n : Nat) (s : Str) : Dt p H B n (.str s)
  | tup {n : Nat} {a : Addr} {xs : List V} (h : H a = some (.tup xs)) (hl : xs.length ≤ B) (hx : ∀ x ∈ xs, Dt p H B n x) : Dt p H B (n + 1) (.ref a)
  | lst {n : Nat} {a : Addr} {xs : List V} (h : H a = some (.lst xs)) (np : a ≠ p) (hl : xs.length ≤ B) (hx : ∀ x ∈ xs, Dt p H B n x) : Dt p H B (n + 1) (.ref a)
theorem Dt.keep {p : Addr} {H H' : Hp} {B n : Nat} {v : V} (hP : Pl H p) (k : Keep p H H') (d : Dt p H B n v) : Dt p H' B n v := by
  induction d with
  | non n => exact .non n
  | bl n b => exact .bl n b
  | int n i h => exact .int n i h
  | str n s => exact .str n s
  | tup h hl _ ih => exact .tup (k _ _ (hP.ne h) h) hl ih
  | lst h np hl _ ih => exact .lst (k _ _ np h) np hl ih
theorem Dt.same {p : Addr} {H H' : Hp} {B n : Nat} {v : V} (k : Same H H') (d : Dt p H B n v) : Dt p H' B n v := by
  induction d with
  | non n => exact .non n
  | bl n b => exact .bl n b
  | int n i h => exact .int n i h
  | str n s => exact .str n s
  | tup h hl _ ih => exact .tup (k _ _ h) hl ih
  | lst h np hl _ ih => exact .lst (k _ _ h) np hl ih
theorem Dt.up {p : Addr} {H : Hp} {B C n m : Nat} {v : V} (hB : B ≤ C) (hn : n ≤ m) (d : Dt p H B n v) : Dt p H C m v := by
  induction d generalizing m with
  | non n => exact .non m
  | bl n b => exact .bl m b
  | int n i h => exact .int m i (up_pow h hB)
  | str n s => exact .str m s
  | tup h hl _ ih =>
    obtain ⟨j, rfl⟩ : ∃ j, m = j + 1 := ⟨m - 1, by omega⟩
    exact .tup h (Nat.le_trans hl hB) fun x hx => ih x hx (by omega)
  | lst h np hl _ ih =>
    obtain ⟨j, rfl⟩ : ∃ j, m = j + 1 := ⟨m - 1, by omega⟩
    exact .lst h np (Nat.le_trans hl hB) fun x hx => ih x hx (by omega)
/-- what isinstance tells of it: tuple, int, bool -/
structure Kd (K : PySem.W.Frag) (H : Hp) (v : V) (t i b : Bool) : Prop where
  ex : ∃ T : String, TyX K H v (.type T) ∧ kitB T "tuple" = some t ∧ kitB T "int" = some i ∧ kitB T "bool" = some b
/-- .. and goes on to tell while all but p stands -/
structure Ko (K : PySem.W.Frag) (p : Addr) (H : Hp) (v : V) (i b : Bool) : Prop where
  ex : ∃ T : String, (∀ H', Keep p H H' → TyX K H' v (.type T)) ∧ kitB T "tuple" = some false ∧ kitB T "int" = some i ∧ kitB T "bool" = some b
def isI : V → Bool
  | .int _ => true
  | _ => false
theorem kd_non {H : Hp} : Kd K H .non false false false := ⟨"NoneType", .base .non, by decide +kernel, by decide +kernel, by decide +kernel⟩
theorem kd_bl {H : Hp} (b : Bool) : Kd K H (.bl b) false true true := ⟨"bool", .base (.bl b), by decide +kernel, by decide +kernel, by decide +kernel⟩
theorem kd_int {H : Hp} (i : Int) : Kd K H (.int i) false true false := ⟨"int", .base (.int i), by decide +kernel, by decide +kernel, by decide +kernel⟩
theorem kd_str {H : Hp} (s : Str) : Kd K H (.str s) false false false := ⟨"str", .base (.str s), by decide +kernel, by decide +kernel, by decide +kernel⟩
theorem kd_tup {H : Hp} {a : Addr} {xs : List V} (h : H a = some (.tup xs)) : Kd K H (.ref a) true false false := ⟨"tuple", .base (.tup h), by decide +kernel, by decide +kernel, by decide +kernel⟩
theorem kd_lst {H : Hp} {a : Addr} {xs : List V} (h : H a = some (.lst xs)) : Kd K H (.ref a) false false false := ⟨"list", .base (.lst h), by decide +kernel, by decide +kernel, by decide +kernel⟩
/-- every such value is a tuple, an int, or neither -/
theorem Dt.kinds {p : Addr} {H : Hp} {B n : Nat} {v : V} (d : Dt p H B n v) :
    (∃ a xs m, v = .ref a ∧ H a = some (.tup xs) ∧ xs.length ≤ B ∧ n = m + 1 ∧ (∀ x ∈ xs, Dt p H B m x) ∧ Kd K H v true false false ∧ isI v = false) ∨ (∃ i, v = .int i ∧ i.natAbs < 2 ^ B ∧ Kd K H v false true false ∧ isI v = true) ∨
    (∃ i b, (i = true → b = true) ∧ Kd K H v false i b ∧ isI v = false ∧ (∀ a xs, v = .ref a → H a ≠ some (.tup xs)) ∧ Ko K p H v i b) := by
  cases d with
  | non n => exact .inr (.inr ⟨_, _, id, kd_non, rfl, (fun _ _ z => nomatch z), ⟨"NoneType", fun _ _ => .base .non, by decide +kernel, by decide +kernel, by decide +kernel⟩⟩)
  | bl n b => exact .inr (.inr ⟨_, _, id, kd_bl b, rfl, (fun _ _ z => nomatch z), ⟨"bool", fun _ _ => .base (.bl b), by decide +kernel, by decide +kernel, by decide +kernel⟩⟩)
  | int n i h => exact .inr (.inl ⟨i, rfl, h, kd_int i, rfl⟩)
  | str n s => exact .inr (.inr ⟨_, _, id, kd_str s, rfl, (fun _ _ z => nomatch z), ⟨"str", fun _ _ => .base (.str s), by decide +kernel, by decide +kernel, by decide +kernel⟩⟩)
  | tup h hl hx => exact .inl ⟨_, _, _, rfl, h, hl, rfl, hx, kd_tup h, rfl⟩
  | lst h np hl hx => exact .inr (.inr ⟨_, _, id, kd_lst h, rfl, (fun a' xs' e z => by cases e; rw [h] at z; cases z), ⟨"list", fun _ k => .base (.lst (k _ _ np h)), by decide +kernel, by decide +kernel, by decide +kernel⟩⟩)

theorem Dt.isInt {p : Addr} {H : Hp} {B n : Nat} {v : V} (d : Dt p H B n v) : ∃ t i b, Kd K H v t i b ∧ isI v = (i && !b) := by
  rcases d.kinds with ⟨_, _, _, _, _, _, _, _, k, e⟩ | ⟨_, _, _, k, e⟩ | ⟨i, b, h, k, e, _, _⟩
  · exact ⟨_, _, _, k, e⟩
  · exact ⟨_, _, _, k, e⟩
  · refine ⟨_, _, _, k, ?_⟩
    rw [e]
    cases i <;> cases b <;> first | rfl | (exact absurd (h rfl) (by decide))
def spIsI (K : PySem.W.Frag) (arg : Str) : Sp := fun vs H Q _ => ∃ v : V, vs = [v] ∧ (∃ t i b, Kd K H v t i b ∧ isI v = (i && !b)) ∧ Q (.bl (isI v)) H

abbrev s_is_integer : Stmt := topS 2
theorem sc_is_integer : FnScope ["value"] ["value"] (defScope s_is_integer) := ⟨rfl, rfl, rfl, by decide +kernel, rfl, by decide +kernel, by decide +kernel⟩
theorem ok_pint {f : Addr} {fd : FuncData} {k : Nat} (F : Fun K "is_integer" "is_integer" s_is_integer f fd) (Z : Glb mg) : FnOk P w K mg base CX0 (k + 1) f fd ["value"] (spIsI K "value") := by
  refine F.ok sc_is_integer (fun vs H Q E h => ?_) (fun cdv A outer s H vs Q E hr h => ?_)
  · obtain ⟨v, rfl, _⟩ := h
    rfl
  · obtain ⟨v, rfl, ⟨t, i, b, ⟨T, ty, ht, hi, hb⟩, e⟩, q⟩ := h
    refine ⟨_, (pss_one (ps_ret (pe_and (pe_callB (id := "isinstance") (r := rIsi K) call_isi (by rfl) Z.m_isinstance (by decide +kernel) (pa_cons (pv 0) (pa_cons (pe_bltn (u := .type "int") (v := .ty "int") (by rfl) Z.m_int (by decide +kernel) rfl) pa_nil))) (pe_one (pe_not (pe_callB (id := "isinstance") (r := rIsi K) call_isi (by rfl) Z.m_isinstance (by decide +kernel) (pa_cons (pv 0) (pa_cons (pe_bltn (u := .type "bool") (v := .ty "bool") (by rfl) Z.m_bool (by decide +kernel) rfl) pa_nil)))))))), ?_⟩
    rw [e] at q
    refine ⟨_, rfl, _, _, _, _, _, rfl, ClsV.ty _, ty, kit_ty hi, i, rfl, ?_⟩
    cases i with
    | false => exact iteF q
    | true => exact iteT ⟨_, rfl, _, _, _, _, _, rfl, ClsV.ty _, ty, kit_ty hb, b, rfl, q⟩

abbrev s__law_is_int : Stmt := topS 18
theorem sc__law_is_int : FnScope ["a"] ["a"] (defScope s__law_is_int) := ⟨rfl, rfl, rfl, by decide +kernel, rfl, by decide +kernel, by decide +kernel⟩
theorem ok_lint {f : Addr} {fd : FuncData} {k : Nat} (F : Fun K "_law_is_int" "_law_is_int" s__law_is_int f fd) (Z : Glb mg) : FnOk P w K mg base CX0 (k + 1) f fd ["a"] (spIsI K "a") := by
  refine F.ok sc__law_is_int (fun vs H Q E h => ?_) (fun cdv A outer s H vs Q E hr h => ?_)
  · obtain ⟨v, rfl, _⟩ := h
    rfl
  · obtain ⟨v, rfl, ⟨t, i, b, ⟨T, ty, ht, hi, hb⟩, e⟩, q⟩ := h
    refine ⟨_, (pss_one (ps_ret (pe_and (pe_callB (id := "isinstance") (r := rIsi K) call_isi (by rfl) Z.m_isinstance (by decide +kernel) (pa_cons (pv 0) (pa_cons (pe_bltn (u := .type "int") (v := .ty "int") (by rfl) Z.m_int (by decide +kernel) rfl) pa_nil))) (pe_one (pe_not (pe_callB (id := "isinstance") (r := rIsi K) call_isi (by rfl) Z.m_isinstance (by decide +kernel) (pa_cons (pv 0) (pa_cons (pe_bltn (u := .type "bool") (v := .ty "bool") (by rfl) Z.m_bool (by decide +kernel) rfl) pa_nil)))))))), ?_⟩
    rw [e] at q
    refine ⟨_, rfl, _, _, _, _, _, rfl, ClsV.ty _, ty, kit_ty hi, i, rfl, ?_⟩
    cases i with
    | false => exact iteF q
    | true => exact iteT ⟨_, rfl, _, _, _, _, _, rfl, ClsV.ty _, ty, kit_ty hb, b, rfl, q⟩

/-- a vector of so many ints -/
def VecOf (H : Hp) (v : V) (L : Nat) : Prop := ∃ a ns, v = .ref a ∧ Vc H a ns ∧ ns.length = L
theorem ints_of {xs : List V} (h : xs.all isI = true) : ∃ ns : List Int, xs = ns.map V.int := by
  induction xs with
  | nil => exact ⟨[], rfl⟩
  | cons x r ih =>
    rw [List.all_cons, Bool.and_eq_true] at h
    obtain ⟨ns, e⟩ := ih h.2
    cases x with
    | int i => exact ⟨i :: ns, by rw [e]; rfl⟩
    | _ => exact absurd h.1 Bool.false_ne_true
theorem all_ints (ns : List Int) : (ns.map V.int).all isI = true := by
  induction ns with
  | nil => rfl
  | cons n r ih =>
    rw [List.map_cons, List.all_cons, ih]
    rfl
theorem vec_iff {H : Hp} {a : Addr} {xs : List V} {L : Nat} (h : H a = some (.tup xs)) : VecOf H (.ref a) L ↔ (xs.length = L ∧ xs.all isI = true) := by
  constructor
  · rintro ⟨a', ns, e, hv, hl⟩
    cases e
    have := h.symm.trans hv
    injection this with this
    injection this with this
    subst this
    rw [List.length_map]
    exact ⟨hl, all_ints ns⟩
  · rintro ⟨h1, h2⟩
    obtain ⟨ns, rfl⟩ := ints_of h2
    rw [List.length_map] at h1
    exact ⟨a, ns, rfl, h, h1⟩
theorem vec_tup {H : Hp} {v : V} {L : Nat} (h : VecOf H v L) : ∃ a xs, v = .ref a ∧ H a = some (.tup xs) := by
  obtain ⟨a, ns, rfl, hv, _⟩ := h
  exact ⟨a, _, rfl, hv⟩
theorem not_vec {H : Hp} {v : V} {L : Nat} (k : ∀ a xs, v = .ref a → H a ≠ some (.tup xs)) : ¬ VecOf H v L := fun z => by
  obtain ⟨a, xs, e, h⟩ := vec_tup z
  exact k a xs e h
/-- a Bool that tells a proposition -/
def spIsVec (x y : Str) : Sp := fun vs H Q _ => ∃ (L : Nat) (v : V) (p : Addr) (B n : Nat), vs = [.int L, v] ∧ Dt p H B n v ∧ B ≤ 500 ∧ ∀ (H' : Hp) (b : Bool), Same H H' → (b = true ↔ VecOf H v L) → Q (.bl b) H'
abbrev s_is_vector : Stmt := topS 3
theorem sc_is_vector : FnScope ["length", "value", "entry"] ["length", "value"] (defScope s_is_vector) := ⟨rfl, rfl, rfl, by decide +kernel, rfl, by decide +kernel, by decide +kernel⟩
theorem ok_pvec {f : Addr} {fd : FuncData} {k : Nat} (F : Fun K "is_vector" "is_vector" s_is_vector f fd) (Z : Glb mg)
    (Cis_integer : Call P w K mg base k "is_integer" ["value"] (spIsI K "value")) : FnOk P w K mg base CX0 (k + 1) f fd ["length", "value"] (spIsVec "length" "value") := by
  refine F.ok sc_is_vector (fun vs H Q E h => ?_) (fun cdv A outer s H vs Q E hr h => ?_)
  · obtain ⟨L, v, p, B, n, rfl, _⟩ := h
    rfl
  · obtain ⟨L, v, p, B, n, rfl, d, hB, q⟩ := h
    refine ⟨_, (pss_one (ps_ret (pe_and (pe_callB (id := "isinstance") (r := rIsi K) call_isi (by rfl) Z.m_isinstance (by decide +kernel) (pa_cons (pv 1) (pa_cons (pe_bltn (u := .type "tuple") (v := .ty "tuple") (by rfl) Z.m_tuple (by decide +kernel) rfl) pa_nil))) (pe_and (pe_cmpR op_eq (pe_callB call_len_seq (by rfl) Z.m_len PySem.boot_len (pa_cons (pv 1) pa_nil)) (pv 0) (nomark _)) (pe_one (pe_callB (cr_all rfl) (by rfl) Z.m_all (by decide +kernel) (pa_cons (pe_lc (own := [("entry", 2)]) (g := gName 2) (tt := tYes) (by rfl) sc_is_vector.nd (pi_tup (pv 1)) (blkOk_by (own := [("entry", 2)]) (N := ["length", "value", "entry"]) (sc := defScope s_is_vector) (by decide +kernel)) (fun _ _ _ _ _ => (pg_name (i := 2) sc_is_vector.nd rfl (.inl rfl))) (fun _ _ _ _ _ => pts_nil) (fun _ _ _ _ _ => (pe_call Cis_integer.G hr (by rfl) Cis_integer.m Cis_integer.kp Cis_integer.b .nil pass0 (pa_cons (pv 2) pa_nil)))) pa_nil))))))), ?_⟩
    rcases d.kinds with ⟨a, xs, m, rfl, ha, hl, rfl, hx, ⟨T, ty, ht, _⟩, _⟩ | ⟨i, rfl, _, ⟨T, ty, ht, _⟩, _⟩ | ⟨i, b, _, ⟨T, ty, ht, _⟩, _, nt, _⟩
    · refine ⟨_, rfl, _, _, _, _, _, rfl, ClsV.ty _, ty, kit_ty ht, true, rfl, iteT ?_⟩
      refine ⟨_, rfl, _, _, rfl, .inr (SqT.of ha), _, rfl, rfl, _, rfl, ?_⟩
      by_cases hL : xs.length = L
      · rw [decide_eq_true (by rw [hL])]
        refine iteT ⟨_, rfl, a, rfl, ⟨_, SqT.of ha⟩, fun D nD => ?_⟩
        refine lc_tup (xs := xs) (fun i H' => ∃ H0, Same H H0 ∧ H0 D = none ∧ H' = upd H0 D (.lst (((xs.map isI).take i).map V.bl))) ⟨H, Same.refl _, nD, rfl⟩ (fun i H' _ hP => ?_) (fun i x H' hxi hP => ?_) (fun H' hP => ?_)
        · obtain ⟨H0, s0, n0, rfl⟩ := hP
          exact SqT.of ((s0.trans (same_upd n0)) _ _ ha)
        · obtain ⟨H0, s0, n0, rfl⟩ := hP
          refine ⟨rfl, ?_⟩
          unfold tYes
          refine iteT ?_
          have dx := (hx x (List.mem_of_getElem? hxi)).same (s0.trans (same_upd (o := .lst (((xs.map isI).take i).map V.bl)) n0))
          refine ⟨_, rfl, _, rfl, dx.isInt, _, upd_same, ?_, H0, s0, n0, ?_⟩
          · rw [List.length_map, List.length_take]
            exact Nat.lt_of_le_of_lt (Nat.min_le_right _ _) (small1000 (by rw [List.length_map]; omega))
          · have hg : (xs.map isI)[i]? = some (isI x) := by
              rw [List.getElem?_map, hxi]
              rfl
            rw [upd_upd, take_get hg, List.map_append]
            rfl
        · obtain ⟨H0, s0, n0, rfl⟩ := hP
          rw [show xs.length = (xs.map isI).length by rw [List.length_map], List.take_length]
          refine ⟨D, _, rfl, SqL.of upd_same, q _ _ (s0.trans (same_upd n0)) ?_⟩
          rw [vec_iff ha, List.all_map]
          exact ⟨fun z => ⟨hL, z⟩, fun z => z.2⟩
      · rw [decide_eq_false (fun z => hL (by have := V.int.inj z; omega))]
        exact iteF (q _ _ (Same.refl _) ⟨(fun z => nomatch z), fun z => absurd ((vec_iff ha).mp z).1 hL⟩)
    · exact ⟨_, rfl, _, _, _, _, _, rfl, ClsV.ty _, ty, kit_ty ht, false, rfl, iteF (q _ _ (Same.refl _) ⟨(fun z => nomatch z), fun z => by obtain ⟨a, xs, e, _⟩ := vec_tup z; cases e⟩)⟩
    · exact ⟨_, rfl, _, _, _, _, _, rfl, ClsV.ty _, ty, kit_ty ht, false, rfl, iteF (q _ _ (Same.refl _) ⟨(fun z => nomatch z), fun z => absurd z (not_vec nt)⟩)⟩

abbrev s_common_divisor : Stmt := topS 5
theorem sc_common_divisor : FnScope ["v", "common", "entry"] ["v"] (defScope s_common_divisor) := ⟨rfl, rfl, rfl, by decide +kernel, rfl, by decide +kernel, by decide +kernel⟩
def spCd : Sp := fun vs H Q _ => ∃ (a : Addr) (ns : List Int), vs = [.ref a] ∧ Vc H a ns ∧ Q (.int (gl ns)) H
theorem ok_cd {f : Addr} {fd : FuncData} {k : Nat} (F : Fun K "common_divisor" "common_divisor" s_common_divisor f fd) (Z : Glb mg) : FnOk P w K mg base CX0 (k + 1) f fd ["v"] spCd := by
  refine F.ok sc_common_divisor (fun vs H Q E h => ?_) (fun cdv A outer s H vs Q E hr h => ?_)
  · obtain ⟨a, ns, rfl, _⟩ := h
    rfl
  · obtain ⟨a, ns, rfl, hv, q⟩ := h
    refine ⟨_, (pss_cons (ps_set (i := 1) sc_common_divisor.nd rfl (.inl rfl) pe_int)
      (pss_cons (ps_for PassesOwn.never rfl (pi_tup (pv 0)) (pg_name (i := 2) sc_common_divisor.nd rfl (.inl rfl)) (pss_one (ps_set (i := 1) sc_common_divisor.nd rfl (.inl rfl) (pe_callBfun cr_gcd (by rfl) Z.m_gcd (pa_cons (pv 1) (pa_cons (pv 2) pa_nil))))))
      (pss_one (ps_ret (pv 1))))), ?_⟩
    refine ⟨_, rfl, a, rfl, ⟨_, SqT.of hv⟩, ?_⟩
    refine for_tup (xs := ns.map V.int) (fun i σ H' => H' = H ∧ ∃ y2 : Option V, σ = [some (.ref a), some (.int (gl (ns.take i))), y2]) ⟨rfl, _, rfl⟩ (fun i σ H' _ hP => by obtain ⟨rfl, _⟩ := hP; exact SqT.of hv) (fun i x σ H' hx hP => ?_) (fun σ H' hP => ?_)
    · obtain ⟨rfl, y2, rfl⟩ := hP
      obtain ⟨n, hn, rfl⟩ := map_get hx
      refine ⟨_, rfl, _, rfl, _, _, rfl, rfl, some (.int n), ?_⟩
      rw [gl_step hn]
      rfl
    · obtain ⟨rfl, y2, rfl⟩ := hP
      rw [List.length_map, List.take_length]
      exact ⟨_, rfl, q⟩

abbrev s__law_is_vector : Stmt := topS 19
theorem sc__law_is_vector : FnScope ["size", "value", "a"] ["size", "value"] (defScope s__law_is_vector) := ⟨rfl, rfl, rfl, by decide +kernel, rfl, by decide +kernel, by decide +kernel⟩
theorem filter_nil {xs : List V} : (xs.filter fun x => !isI x).length = 0 ↔ xs.all isI = true := by
  rw [List.length_eq_zero_iff, List.filter_eq_nil_iff, List.all_eq_true]
  constructor
  · intro h x hx
    have := h x hx
    cases e : isI x with
    | true => rfl
    | false => rw [e] at this; exact absurd rfl this
  · intro h x hx
    rw [h x hx]
    exact Bool.false_ne_true
theorem ok_lvec {f : Addr} {fd : FuncData} {k : Nat} (F : Fun K "_law_is_vector" "_law_is_vector" s__law_is_vector f fd) (Z : Glb mg)
    (C_law_is_int : Call P w K mg base k "_law_is_int" ["a"] (spIsI K "a")) : FnOk P w K mg base CX0 (k + 1) f fd ["size", "value"] (spIsVec "size" "value") := by
  refine F.ok sc__law_is_vector (fun vs H Q E h => ?_) (fun cdv A outer s H vs Q E hr h => ?_)
  · obtain ⟨L, v, p, B, n, rfl, _⟩ := h
    rfl
  · obtain ⟨L, v, p, B, n, rfl, d, hB, q⟩ := h
    refine ⟨_, (pss_one (ps_ret (pe_and (pe_callB (id := "isinstance") (r := rIsi K) call_isi (by rfl) Z.m_isinstance (by decide +kernel) (pa_cons (pv 1) (pa_cons (pe_bltn (u := .type "tuple") (v := .ty "tuple") (by rfl) Z.m_tuple (by decide +kernel) rfl) pa_nil))) (pe_and (pe_cmpR op_eq (pe_callB call_len_seq (by rfl) Z.m_len PySem.boot_len (pa_cons (pv 1) pa_nil)) (pv 0) (nomark _)) (pe_one (pe_cmpR op_eq (pe_callB call_len_seq (by rfl) Z.m_len PySem.boot_len (pa_cons (pe_lc (own := [("a", 2)]) (g := gName 2) (by rfl) sc__law_is_vector.nd (pi_tup (pv 1)) (blkOk_by (own := [("a", 2)]) (N := ["size", "value", "a"]) (sc := defScope s__law_is_vector) (by decide +kernel)) (fun _ _ _ _ _ => (pg_name (i := 2) sc__law_is_vector.nd rfl (.inl rfl))) (fun _ _ _ _ _ => (pts_one (pt_not (pt_val (pe_call C_law_is_int.G hr (by rfl) C_law_is_int.m C_law_is_int.kp C_law_is_int.b .nil pass0 (pa_cons (pv 2) pa_nil)))))) (fun _ _ _ _ _ => (pv 2))) pa_nil)) pe_int (nomark _))))))), ?_⟩
    rcases d.kinds with ⟨a, xs, m, rfl, ha, hl, rfl, hx, ⟨T, ty, ht, _⟩, _⟩ | ⟨i, rfl, _, ⟨T, ty, ht, _⟩, _⟩ | ⟨i, b, _, ⟨T, ty, ht, _⟩, _, nt, _⟩
    · refine ⟨_, rfl, _, _, _, _, _, rfl, ClsV.ty _, ty, kit_ty ht, true, rfl, iteT ?_⟩
      refine ⟨_, rfl, _, _, rfl, .inr (SqT.of ha), _, rfl, rfl, _, rfl, ?_⟩
      by_cases hL : xs.length = L
      · rw [decide_eq_true (by rw [hL])]
        refine iteT ⟨_, rfl, a, rfl, ⟨_, SqT.of ha⟩, fun D nD => ?_⟩
        refine lc_tup (xs := xs) (fun i H' => ∃ H0, Same H H0 ∧ H0 D = none ∧ H' = upd H0 D (.lst ((xs.take i).filter fun x => !isI x))) ⟨H, Same.refl _, nD, rfl⟩ (fun i H' _ hP => ?_) (fun i x H' hxi hP => ?_) (fun H' hP => ?_)
        · obtain ⟨H0, s0, n0, rfl⟩ := hP
          exact SqT.of ((s0.trans (same_upd n0)) _ _ ha)
        · obtain ⟨H0, s0, n0, rfl⟩ := hP
          have dx := (hx x (List.mem_of_getElem? hxi)).same (s0.trans (same_upd (o := .lst ((xs.take i).filter fun x => !isI x)) n0))
          refine ⟨rfl, _, rfl, _, rfl, dx.isInt, _, rfl, ?_⟩
          cases ei : isI x with
          | true =>
            refine iteF ⟨H0, s0, n0, ?_⟩
            rw [take_get hxi, List.filter_append]
            simp [ei]
          | false =>
            refine iteT ⟨_, rfl, _, upd_same, ?_, H0, s0, n0, ?_⟩
            · refine Nat.lt_of_le_of_lt (List.length_filter_le _ _) ?_
              rw [List.length_take]
              exact Nat.lt_of_le_of_lt (Nat.min_le_right _ _) (small1000 (by omega))
            · rw [upd_upd, take_get hxi, List.filter_append]
              simp [ei]
        · obtain ⟨H0, s0, n0, rfl⟩ := hP
          rw [List.take_length]
          refine ⟨_, _, rfl, .inl (SqL.of upd_same), rfl, q _ _ (s0.trans (same_upd n0)) ?_⟩
          rw [vec_iff ha, decide_eq_true_iff, ← filter_nil]
          exact ⟨fun z => ⟨hL, by have := V.int.inj z; omega⟩, fun z => by rw [z.2]; rfl⟩
      · rw [decide_eq_false (fun z => hL (by have := V.int.inj z; omega))]
        exact iteF (q _ _ (Same.refl _) ⟨(fun z => nomatch z), fun z => absurd ((vec_iff ha).mp z).1 hL⟩)
    · exact ⟨_, rfl, _, _, _, _, _, rfl, ClsV.ty _, ty, kit_ty ht, false, rfl, iteF (q _ _ (Same.refl _) ⟨(fun z => nomatch z), fun z => by obtain ⟨a, xs, e, _⟩ := vec_tup z; cases e⟩)⟩
    · exact ⟨_, rfl, _, _, _, _, _, rfl, ClsV.ty _, ty, kit_ty ht, false, rfl, iteF (q _ _ (Same.refl _) ⟨(fun z => nomatch z), fun z => absurd z (not_vec nt)⟩)⟩
theorem vc_eq {H : Hp} {a : Addr} {ns ms : List Int} (h : Vc H a ns) (h' : Vc H a ms) : ns = ms := by
  have e := h.symm.trans h'
  injection e with e
  injection e with e
  exact List.map_inj_right (fun x y z => V.int.inj z) |>.mp e
def IsPt (H : Hp) (v : V) (L : Nat) : Prop := ∃ a ns, v = .ref a ∧ Vc H a ns ∧ ns.length = L ∧ (∃ n, ns[0]? = some n ∧ 0 < n) ∧ gl ns = 1
def IsIq (H : Hp) (v : V) (L : Nat) : Prop := ∃ a ns, v = .ref a ∧ Vc H a ns ∧ ns.length = L ∧ ((ns.drop 1).any fun n => n != 0) = true ∧ gl ns = 1
def spIs (R : Hp → V → Nat → Prop) : Sp := fun vs H Q _ => ∃ (d : Nat) (v : V) (p : Addr) (B n : Nat), vs = [.int d, v] ∧ 1 ≤ d ∧ Dt p H B n v ∧ B ≤ 500 ∧ ∀ (H' : Hp) (b : Bool), Same H H' → (b = true ↔ R H v (d + 1)) → Q (.bl b) H'
theorem cut1 (xs : List V) : cutV xs (some 1) none = xs.drop 1 := by
  unfold cutV
  rw [show HT.sIx xs.length 0 (some 1) = min 1 xs.length from HT.sIx_nat xs.length 0 1, HT.sIx_none]
  cases xs with
  | nil => rfl
  | cons x r =>
    rw [show min 1 (x :: r).length = 1 by rw [List.length_cons]; omega]
    exact List.take_of_length_le (by rw [List.length_drop]; exact Nat.le_refl _)
abbrev s_is_point : Stmt := topS 7
theorem sc_is_point : FnScope ["d", "value"] ["d", "value"] (defScope s_is_point) := ⟨rfl, rfl, rfl, by decide +kernel, rfl, by decide +kernel, by decide +kernel⟩
theorem ok_pt {f : Addr} {fd : FuncData} {k : Nat} (F : Fun K "is_point" "is_point" s_is_point f fd) (Z : Glb mg)
    (Cis_vector : Call P w K mg base k "is_vector" ["length", "value"] (spIsVec "length" "value"))
    (Ccommon_divisor : Call P w K mg base k "common_divisor" ["v"] spCd) : FnOk P w K mg base CX0 (k + 1) f fd ["d", "value"] (spIs IsPt) := by
  refine F.ok sc_is_point (fun vs H Q E h => ?_) (fun cdv A outer s H vs Q E hr h => ?_)
  · obtain ⟨d, v, p, B, n, rfl, _⟩ := h
    rfl
  · obtain ⟨d, v, p, B, n, rfl, hd, D, hB, q⟩ := h
    refine ⟨_, (pss_one (ps_ret (pe_and (pe_call Cis_vector.G hr (by rfl) Cis_vector.m Cis_vector.kp Cis_vector.b .nil pass0 (pa_cons (pe_op op_add (pv 0) pe_int) (pa_cons (pv 1) pa_nil))) (pe_and (pe_cmpR op_gt (pe_ix (r := rIxT K) ix_tup (pv 1) pe_int (fun _ _ => rfl)) pe_int (nomark _)) (pe_one (pe_cmpR op_eq (pe_call Ccommon_divisor.G hr (by rfl) Ccommon_divisor.m Ccommon_divisor.kp Ccommon_divisor.b .nil pass0 (pa_cons (pv 1) pa_nil)) pe_int (nomark _))))))), ?_⟩
    refine ⟨_, rfl, _, _, rfl, rfl, _, rfl, d + 1, v, p, B, n, rfl, D, hB, fun H1 b s1 hb => ⟨b, rfl, ?_⟩⟩
    cases b with
    | false => exact iteF (q _ _ s1 ⟨(fun z => nomatch z), fun ⟨a, ns, e, h1, h2, _⟩ => by have := hb.mpr ⟨a, ns, e, h1, h2⟩; cases this⟩)
    | true =>
      obtain ⟨a, ns, rfl, hv, hL⟩ := hb.mp rfl
      have hv1 := hv.same s1
      have g0 : ns[0]? = some (ns[0]'(by omega)) := List.getElem?_eq_getElem (by omega)
      have g0m : (ns.map V.int)[0]? = some (.int (ns[0]'(by omega))) := get_map g0
      refine iteT ⟨_, rfl, _, _, _, _, rfl, rfl, SqT.of hv1, atI_nat g0m, _, _, rfl, rfl, _, rfl, ite2 (fun e => ?_) (fun e => ?_)⟩
      · have e1 := of_decide_eq_true e
        refine ⟨_, rfl, a, ns, rfl, hv1, rfl, q _ _ s1 ?_⟩
        rw [decide_eq_true_iff]
        constructor
        · intro z
          exact ⟨a, ns, rfl, hv, hL, ⟨_, g0, e1⟩, V.int.inj z⟩
        · rintro ⟨a', ns', e', h1, h2, h3, h4⟩
          cases e'
          rw [vc_eq hv h1, h4]
      · refine q _ _ s1 ⟨(fun z => nomatch z), ?_⟩
        rintro ⟨a', ns', e', h1, h2, ⟨n', h3, h5⟩, h4⟩
        cases e'
        have := vc_eq hv h1
        subst this
        rw [g0] at h3
        cases h3
        exact absurd (decide_eq_true h5) e
abbrev s_is_inequality : Stmt := topS 8
theorem sc_is_inequality : FnScope ["d", "value"] ["d", "value"] (defScope s_is_inequality) := ⟨rfl, rfl, rfl, by decide +kernel, rfl, by decide +kernel, by decide +kernel⟩
theorem ok_iq {f : Addr} {fd : FuncData} {k : Nat} (F : Fun K "is_inequality" "is_inequality" s_is_inequality f fd) (Z : Glb mg)
    (Cis_vector : Call P w K mg base k "is_vector" ["length", "value"] (spIsVec "length" "value"))
    (Ccommon_divisor : Call P w K mg base k "common_divisor" ["v"] spCd) : FnOk P w K mg base CX0 (k + 1) f fd ["d", "value"] (spIs IsIq) := by
  refine F.ok sc_is_inequality (fun vs H Q E h => ?_) (fun cdv A outer s H vs Q E hr h => ?_)
  · obtain ⟨d, v, p, B, n, rfl, _⟩ := h
    rfl
  · obtain ⟨d, v, p, B, n, rfl, hd, D, hB, q⟩ := h
    refine ⟨_, (pss_one (ps_ret (pe_and (pe_call Cis_vector.G hr (by rfl) Cis_vector.m Cis_vector.kp Cis_vector.b .nil pass0 (pa_cons (pe_op op_add (pv 0) pe_int) (pa_cons (pv 1) pa_nil))) (pe_and (pe_callB (cr_anyT rfl) (by rfl) Z.m_any (by decide +kernel) (pa_cons (pe_slice sl_tupA (pv 1) (po_some pe_int) po_none) pa_nil)) (pe_one (pe_cmpR op_eq (pe_call Ccommon_divisor.G hr (by rfl) Ccommon_divisor.m Ccommon_divisor.kp Ccommon_divisor.b .nil pass0 (pa_cons (pv 1) pa_nil)) pe_int (nomark _))))))), ?_⟩
    refine ⟨_, rfl, _, _, rfl, rfl, _, rfl, d + 1, v, p, B, n, rfl, D, hB, fun H1 b s1 hb => ⟨b, rfl, ?_⟩⟩
    cases b with
    | false => exact iteF (q _ _ s1 ⟨(fun z => nomatch z), fun ⟨a, ns, e, h1, h2, _⟩ => by have := hb.mpr ⟨a, ns, e, h1, h2⟩; cases this⟩)
    | true =>
      obtain ⟨a, ns, rfl, hv, hL⟩ := hb.mp rfl
      have hv1 := hv.same s1
      refine iteT ⟨_, rfl, 1, rfl, ?_⟩
      unfold tNoPart
      refine sl_h hv1 fun H2 r s2 hr2 => ?_
      rw [cut1, ← List.map_drop] at hr2
      refine ⟨r, ns.drop 1, rfl, SqT.of hr2, _, rfl, ite2 (fun e => ?_) (fun e => ?_)⟩
      · refine ⟨_, rfl, a, ns, rfl, hv1.same s2, rfl, q _ _ (s1.trans s2) ?_⟩
        rw [decide_eq_true_iff]
        constructor
        · intro z
          exact ⟨a, ns, rfl, hv, hL, e, V.int.inj z⟩
        · rintro ⟨a', ns', e', h1, h2, h3, h4⟩
          cases e'
          rw [vc_eq hv h1, h4]
      · refine q _ _ (s1.trans s2) ⟨(fun z => nomatch z), ?_⟩
        rintro ⟨a', ns', e', h1, h2, h3, h4⟩
        cases e'
        rw [← vc_eq hv h1] at h3
        exact absurd h3 e

/-- a comprehension over range whose turn draws: what it leaves -/
def Dr (p : Addr) (H : Hp) (D : Addr) (B : Nat) (i : Nat) (H' : Hp) : Prop := (∃ q, Plq H' p q ∧ q ≠ D) ∧ Keep p H H' ∧ ∃ ns : List Int, H' D = some (.lst (ns.map V.int)) ∧ ns.length = i ∧ ∀ n ∈ ns, n.natAbs < 2 ^ B
theorem dr0 {p D : Addr} {H : Hp} {B : Nat} (hp : Pl H p) (nD : H D = none) : Dr p H D B 0 (upd H D (.lst [])) := by
  obtain ⟨q, hq⟩ := hp.q
  exact ⟨⟨q, hq.same (same_upd nD), (hq.ne_free nD).2⟩, Same.keep (same_upd nD), [], upd_same, rfl, fun n h => nomatch h⟩
theorem dr_step {p D : Addr} {H H' H2 : Hp} {B i : Nat} {n : Int} (nD : H D = none) (hP : Pl H p) (h : Dr p H D B i H') (hB : But p H' H2) (P2 : Pl H2 p) (hn : n.natAbs < 2 ^ B) :
    ∃ acc, H2 D = some (.lst acc) ∧ acc.length = i ∧ Dr p H D B (i + 1) (upd H2 D (.lst (acc ++ [.int n]))) := by
  obtain ⟨⟨q, hq, qD⟩, K1, ns, e, hl, hb⟩ := h
  have ne : D ≠ p := by
    obtain ⟨q0, h0⟩ := hP.q
    exact (h0.ne_free nD).1.symm
  refine ⟨ns.map V.int, (hB.1 D ne).trans e, by rw [List.length_map]; exact hl, ⟨q, (hq.but hB P2).upd ne.symm qD, qD⟩, ?_, ns ++ [n], ?_, ?_, ?_⟩
  · intro x o hx ho
    have hxD : x ≠ D := ne_of_none ho nD
    rw [upd_ne hxD]
    exact hB.keep _ _ hx (K1 _ _ hx ho)
  · rw [upd_same, List.map_append]
    rfl
  · rw [List.length_append, hl]
    rfl
  · intro m hm
    rcases List.mem_append.mp hm with h | h
    · exact hb m h
    · rw [List.mem_singleton.mp h]
      exact hn

abbrev s__law_point : Stmt := topS 16
theorem sc__law_point : FnScope ["pool", "d", "most", "below", "k"] ["pool", "d", "most"] (defScope s__law_point) := ⟨rfl, rfl, rfl, by decide +kernel, rfl, by decide +kernel, by decide +kernel⟩
theorem gl_dvd {ns : List Int} {n : Int} (h : n ∈ ns) : gl ns ∣ n := by
  unfold gl
  have : ∀ (l : List Int) (c : Int), (l.foldl g2 c) ∣ c ∧ ∀ n ∈ l, (l.foldl g2 c) ∣ n := by
    intro l
    induction l with
    | nil => intro c; exact ⟨Int.dvd_refl _, fun n h => nomatch h⟩
    | cons x r ih =>
      intro c
      obtain ⟨h1, h2⟩ := ih (g2 c x)
      refine ⟨Int.dvd_trans h1 (g2_dvd_l c x), fun n hn => ?_⟩
      rcases List.mem_cons.mp hn with rfl | hn
      · exact Int.dvd_trans h1 (g2_dvd_r c n)
      · exact h2 n hn
  exact (this ns 0).2 n h
theorem gl_pos {ns : List Int} {n : Int} (h : n ∈ ns) (hn : n ≠ 0) : 0 < gl ns := by
  have h1 := gl_nn ns
  have h2 : gl ns ≠ 0 := fun z => by
    have := gl_dvd h
    rw [z] at this
    exact hn (Int.zero_dvd.mp this)
  omega
theorem prim_get {ns : List Int} {i : Nat} {n : Int} (h : ns[i]? = some n) (g : 0 < gl ns) : (prim ns)[i]? = some (n / gl ns) := by
  unfold prim
  rw [if_neg (by omega), List.getElem?_map, h]
  rfl
theorem prim_small {ns : List Int} {B : Nat} (h : ∀ n ∈ ns, n.natAbs ≤ B) : ∀ n ∈ prim ns, n.natAbs ≤ B := by
  unfold prim
  split
  · exact h
  · rename_i g
    intro n hn
    obtain ⟨m, hm, rfl⟩ := List.mem_map.mp hn
    exact Nat.le_trans (ediv_abs (by have := gl_nn ns; omega)) (h m hm)
def spPoint : Sp := fun vs H Q _ => ∃ (p : Addr) (d : Nat) (m : Int), vs = [.ref p, .int d, .int m] ∧ d ≤ 10 ∧ 1 ≤ m ∧ m ≤ 5 ∧ Pl H p ∧ ∀ (H' : Hp) (r : Addr) (ns : List Int), Pl H' p → Keep p H H' → Vc H' r ns → ns.length = d + 1 → (∀ n ∈ ns, n.natAbs ≤ 3) → (∃ w, ns[0]? = some w ∧ 0 < w) → Q (.ref r) H'
theorem ok_point {f : Addr} {fd : FuncData} {k : Nat} (F : Fun K "_law_point" "_law_point" s__law_point f fd) (Z : Glb mg)
    (C_law_draw : Call P w K mg base k "_law_draw" ["pool", "many"] spDraw)
    (C_law_prim : Call P w K mg base k "_law_prim" ["v"] spPrimK) : FnOk P w K mg base CX0 (k + 1) f fd ["pool", "d", "most"] spPoint := by
  refine F.ok sc__law_point (fun vs H Q E h => ?_) (fun cdv A outer s H vs Q E hr h => ?_)
  · obtain ⟨p, d, m, rfl, _⟩ := h
    rfl
  · obtain ⟨p, d, m, rfl, hd, m1, m5, hP, q⟩ := h
    refine ⟨_, (pss_cons (ps_set (i := 3) sc__law_point.nd rfl (.inl rfl) (pe_ix (r := rIxL K) ix_list (pe_lst (pa_cons pe_int (pa_cons pe_int (pa_cons pe_int (pa_cons pe_int (pa_cons pe_int pa_nil)))))) (pe_call C_law_draw.G hr (by rfl) C_law_draw.m C_law_draw.kp C_law_draw.b .nil pass0 (pa_cons (pv 0) (pa_cons (pv 2) pa_nil))) (fun _ _ => rfl)))
      (pss_one (ps_ret (pe_call C_law_prim.G hr (by rfl) C_law_prim.m C_law_prim.kp C_law_prim.b .nil pass0 (pa_cons (pe_op op_cat (pe_lst (pa_cons (pv 3) pa_nil)) (pe_lc (own := [("k", 4)]) (g := gName 4) (tt := tYes) (by rfl) sc__law_point.nd (pi_range1 rfl Z.m_range (pa_cons (pv 1) pa_nil)) (blkOk_by (own := [("k", 4)]) (N := ["pool", "d", "most", "below", "k"]) (sc := defScope s__law_point) (by decide +kernel)) (fun _ _ _ _ _ => (pg_name (i := 4) sc__law_point.nd rfl (.inl rfl))) (fun _ _ _ _ _ => pts_nil) (fun _ _ _ _ _ => (pe_op op_sub (pe_call C_law_draw.G hr (by rfl) C_law_draw.m C_law_draw.kp C_law_draw.b .nil pass0 (pa_cons (pv 0) (pa_cons pe_int pa_nil))) pe_int)))) pa_nil))))), ?_⟩
    refine ⟨Nat.le_of_lt (small1000 (show 5 ≤ 1000 by decide)), fun l nl => ?_⟩
    refine ⟨_, rfl, _, rfl, p, m, rfl, by omega, Nat.lt_of_le_of_lt (show m.natAbs ≤ 5 by omega) (by decide), hP.same (same_upd nl), fun v H1 l1 u1 P1 B1 => ?_⟩
    have lp : l ≠ p := by
      obtain ⟨q0, h0⟩ := hP.q
      exact (h0.ne_free nl).1.symm
    have hl := (B1.1 l lp).trans upd_same
    obtain ⟨b, hat, hb1, hb3⟩ : ∃ b : Int, atI [V.int 1, V.int 1, V.int 1, V.int 2, V.int 3] v = some (.int b) ∧ 0 < b ∧ b ≤ 3 := by
      have hv : v = 0 ∨ v = 1 ∨ v = 2 ∨ v = 3 ∨ v = 4 := by omega
      rcases hv with rfl | rfl | rfl | rfl | rfl
      · exact ⟨1, atI_nat (j := 0) rfl, by decide, by decide⟩
      · exact ⟨1, atI_nat (j := 1) rfl, by decide, by decide⟩
      · exact ⟨1, atI_nat (j := 2) rfl, by decide, by decide⟩
      · exact ⟨2, atI_nat (j := 3) rfl, by decide, by decide⟩
      · exact ⟨3, atI_nat (j := 4) rfl, by decide, by decide⟩
    refine ⟨_, _, _, _, rfl, rfl, SqL.of hl, hat, ?_⟩
    have K1 : Keep p H H1 := (Same.keep (same_upd nl)).trans B1.keep
    -- [below] + ..
    refine ⟨_, rfl, Nat.le_of_lt (small1000 (show 1 ≤ 1000 by decide)), fun l2 nl2 => ?_⟩
    have s2 := same_upd (o := .lst [.int b]) nl2
    have P2 := P1.same s2
    have l2p : l2 ≠ p := by
      obtain ⟨q0, h0⟩ := P1.q
      exact (h0.ne_free nl2).1.symm
    have hl2 : (upd H1 l2 (.lst [.int b])) l2 = some (.lst [.int b]) := upd_same
    generalize upd H1 l2 (.lst [.int b]) = H2 at *
    refine ⟨_, rfl, _, rfl, by omega, by omega, fun D nD => ?_⟩
    refine lc_range (lo := 0) (n := d) (Dr p H2 D 2) (dr0 P2 nD) (fun i H3 hi hW => ?_) (fun H3 hW => ?_)
    · refine ⟨rfl, ?_⟩
      unfold tYes
      refine iteT ?_
      obtain ⟨q0, hq0, _⟩ := hW.1
      refine ⟨_, rfl, p, _, rfl, by decide, by decide, hq0.pl, fun n H4 l4 u4 P4 B4 => ⟨_, _, rfl, rfl, ?_⟩⟩
      obtain ⟨acc, h1, h2, h3⟩ := dr_step (n := n - 3) nD P2 hW B4 P4 (by omega)
      exact ⟨acc, h1, small1000 (by omega), h3⟩
    obtain ⟨⟨q3, hq3, _⟩, K3, xs, eD, hlen, hB⟩ := hW
    have hl3 := K3 _ _ l2p hl2
    refine ⟨l2, D, _, _, rfl, rfl, hl3, eD, ?_, fun c nc => ?_⟩
    · rw [List.length_map]
      exact Nat.le_of_lt (small1000 (by show 1 + xs.length ≤ 1000; omega))
    have s4 := same_upd (o := .lst ([.int b] ++ xs.map V.int)) nc
    have hb2 : ∀ n ∈ b :: xs, n.natAbs ≤ 3 := fun n hn => by
      rcases List.mem_cons.mp hn with rfl | hn
      · omega
      · have := hB n hn
        omega
    refine ⟨false, c, b :: xs, rfl, upd_same, by rw [List.length_cons]; omega, fun n hn => Nat.lt_of_le_of_lt (hb2 n hn) (by decide), fun H5 r s5 R5 => ?_⟩
    have g := gl_pos (ns := b :: xs) List.mem_cons_self (show b ≠ 0 by omega)
    exact q H5 r _ ((hq3.pl.same s4).same s5) (((K1.trans (Same.keep s2)).trans K3).trans ((Same.keep s4).trans (Same.keep s5))) R5 (by rw [prim_len, List.length_cons, hlen]) (prim_small hb2)
      ⟨_, prim_get (i := 0) rfl g, Int.ediv_pos_of_pos_of_dvd hb1 (Int.le_of_lt g) (gl_dvd List.mem_cons_self)⟩

/-- an int times a bool -/
theorem op_mul_ib {X : Cx} : OpR X (binaryOp .Mult) (fun x y H Q => ∃ i k, x = .int i ∧ y = .bl k ∧ Q (.int (i * if k = true then (1 : Int) else 0)) H) := by
  intro pins s σ H x y v u Q I rx ry h
  obtain ⟨i, k, rfl, rfl, q⟩ := h
  obtain ⟨t, rfl⟩ := rx
  cases ry
  exact PySem.IntBool.mul_int_bool ⟨.int (i * if k = true then (1 : Int) else 0), H, I.tok _, ⟨_, rfl⟩, q⟩
def rMulB : R2 := fun x y H Q => rI CMul (fun i j => .int (i * j)) x y H Q ∨ ∃ i k, x = .int i ∧ y = .bl k ∧ Q (.int (i * if k = true then (1 : Int) else 0)) H
theorem op_mulB {X : Cx} : OpR X (binaryOp .Mult) rMulB := OpR.or op_mul op_mul_ib
theorem Dt.dbl {p : Addr} {H : Hp} {B n : Nat} {v : V} (d : Dt p H B n v) : ∃ (T : String) (i : Bool), TyX K H v (.type T) ∧ kitB T "int" = some i ∧ (i = true → (∃ k, v = .bl k) ∨ ∃ m : Int, v = .int m ∧ m.natAbs < 2 ^ B) := by
  cases d with
  | non n => exact ⟨_, false, .base .non, by decide +kernel, (fun z => nomatch z)⟩
  | bl n b => exact ⟨_, true, .base (.bl b), by decide +kernel, fun _ => .inl ⟨b, rfl⟩⟩
  | int n i h => exact ⟨_, true, .base (.int i), by decide +kernel, fun _ => .inr ⟨i, rfl, h⟩⟩
  | str n s => exact ⟨_, false, .base (.str s), by decide +kernel, fun z => nomatch z⟩
  | tup h hl hx => exact ⟨_, false, .base (.tup h), by decide +kernel, fun z => nomatch z⟩
  | lst h np hl hx => exact ⟨_, false, .base (.lst h), by decide +kernel, fun z => nomatch z⟩
abbrev s__law_bent : Stmt := topS 17
theorem sc__law_bent : FnScope ["pool", "value", "at", "turn", "a"] ["pool", "value"] (defScope s__law_bent) := ⟨rfl, rfl, rfl, by decide +kernel, rfl, by decide +kernel, by decide +kernel⟩
def spBent (n : Nat) : Sp := fun vs H Q _ => ∃ (p : Addr) (v : V) (B : Nat), vs = [.ref p, v] ∧ Pl H p ∧ Dt p H B n v ∧ 10 ≤ B ∧ B ≤ 400 ∧ ∀ (H' : Hp) (v' : V), Pl H' p → Keep p H H' → Dt p H' (B + 1) (n + 1) v' → Q v' H'
theorem pw1 {B : Nat} : 2 ^ (B + 1) = 2 ^ B + 2 ^ B := by rw [Nat.pow_succ]; omega
theorem one_pw {B : Nat} : 1 ≤ 2 ^ B := Nat.one_le_two_pow
/-- the rest of the body, from the draw of turn on -/
def BentMid (p : Addr) (v : V) (H : Hp) : L2.St → Hp → Prop := fun σ H' => σ = [some (.ref p), some v, none, none, none] ∧ Pl H' p ∧ But p H H'

theorem ok_bentN {f : Addr} {fd : FuncData} {k n : Nat} (F : Fun K "_law_bent" "_law_bent" s__law_bent f fd) (Z : Glb mg)
    (C_law_draw : Call P w K mg base k "_law_draw" ["pool", "many"] spDraw)
    (G : ∀ m, n = m + 1 → FnOk P w K mg base CX0 k f fd ["pool", "value"] (spBent m)) (gS : mg "_law_bent" = some (.ref f)) (bS : Binds K fd ["pool", "value"] []) : FnOk P w K mg base CX0 (k + 1) f fd ["pool", "value"] (spBent n) := by
  refine F.ok sc__law_bent (fun vs H Q E h => ?_) (fun cdv A outer s H vs Q E hr h => ?_)
  · obtain ⟨p, v, B, rfl, _⟩ := h
    rfl
  · obtain ⟨p, v, B, rfl, hP, d, hB1, hB2, q⟩ := h
    have bp : 2 ^ (B + 1) = 2 ^ B + 2 ^ B := pw1
    have bo : 1 ≤ 2 ^ B := one_pw
    rcases d.kinds with ⟨a, xs, m, rfl, ha, hl, rfl, hx, ⟨T, ty, ht, hi, hb⟩, _⟩ | ⟨i, rfl, hi0, ⟨T, ty, ht, hi, hb⟩, _⟩ | ⟨ib, bb, hib, _, _, nt, Kv⟩
    · have C_law_bent : Call P w K mg base k "_law_bent" ["pool", "value"] (spBent m) := ⟨f, fd, G m rfl, gS, F.kp, bS⟩
      refine ⟨_, (pss_cut (ps_if (PW.pt (pw_and (pt_val (pe_callB (id := "isinstance") (r := rIsi K) call_isi (by rfl) Z.m_isinstance (by decide +kernel) (pa_cons (pv 1) (pa_cons (pe_bltn (u := .type "tuple") (v := .ty "tuple") (by rfl) Z.m_tuple (by decide +kernel) rfl) pa_nil)))) (pw_and (pt_cmpR op_gt (pe_callB call_len_seq (by rfl) Z.m_len PySem.boot_len (pa_cons (pv 1) pa_nil)) pe_int (nomark _)) (pw_and1 (pt_cmpR op_gt (pe_call C_law_draw.G hr (by rfl) C_law_draw.m C_law_draw.kp C_law_draw.b .nil pass0 (pa_cons (pv 0) (pa_cons pe_int pa_nil))) pe_int (nomark _)))))) (pss_cons (ps_set (i := 2) sc__law_bent.nd rfl (.inl rfl) (pe_call C_law_draw.G hr (by rfl) C_law_draw.m C_law_draw.kp C_law_draw.b .nil pass0 (pa_cons (pv 0) (pa_cons (pe_callB call_len_seq (by rfl) Z.m_len PySem.boot_len (pa_cons (pv 1) pa_nil)) pa_nil))))
      (pss_one (ps_ret (pe_op op_catA (pe_op op_catA (pe_slice sl_tupA (pv 1) po_none (po_some (pv 2))) (pe_tup (pa_cons (pe_call C_law_bent.G hr (by rfl) C_law_bent.m C_law_bent.kp C_law_bent.b .nil pass0 (pa_cons (pv 0) (pa_cons (pe_ix (r := rIxT K) ix_tup (pv 1) (pv 2) (fun _ _ => rfl)) pa_nil))) pa_nil))) (pe_slice sl_tupA (pv 1) (po_some (pe_op op_add (pv 2) pe_int)) po_none))))) pss_nil)
      (pss_cons (ps_set (i := 3) sc__law_bent.nd rfl (.inl rfl) (pe_call C_law_draw.G hr (by rfl) C_law_draw.m C_law_draw.kp C_law_draw.b .nil pass0 (pa_cons (pv 0) (pa_cons pe_int pa_nil))))
      (pss_cons (ps_if (PW.pt (pw_and (pt_val (pe_callB (id := "isinstance") (r := rIsi K) call_isi (by rfl) Z.m_isinstance (by decide +kernel) (pa_cons (pv 1) (pa_cons (pe_bltn (u := .type "int") (v := .ty "int") (by rfl) Z.m_int (by decide +kernel) rfl) pa_nil)))) (pw_and (pt_not (pt_val (pe_callB (id := "isinstance") (r := rIsi K) call_isi (by rfl) Z.m_isinstance (by decide +kernel) (pa_cons (pv 1) (pa_cons (pe_bltn (u := .type "bool") (v := .ty "bool") (by rfl) Z.m_bool (by decide +kernel) rfl) pa_nil))))) (pw_and1 (pt_cmpR op_lt (pv 3) pe_int (nomark _)))))) (pss_one (ps_ret (pe_ix (r := rIxL K) ix_list (pe_lst (pa_cons (pe_op op_add (pv 1) pe_int) (pa_cons (pe_op op_sub (pv 1) pe_int) (pa_cons (pe_un un_neg (pv 1)) (pa_cons pe_int (pa_cons (pe_op op_mul pe_int (pv 1)) pa_nil)))))) (pv 3) (fun _ _ => rfl)))) pss_nil)
      (pss_cons (ps_if (pt_cmpR op_lt (pv 3) pe_int (nomark _)) (pss_one (ps_ret (pe_ix (r := rIxT K) ix_tup (pe_tup (pa_cons pe_non (pa_cons pe_bl (pa_cons pe_str (pa_cons (pe_tup pa_nil) (pa_cons (pe_lst (pa_cons pe_int pa_nil)) (pa_cons pe_int (pa_cons (pe_un un_neg pe_int) pa_nil)))))))) (pe_call C_law_draw.G hr (by rfl) C_law_draw.m C_law_draw.kp C_law_draw.b .nil pass0 (pa_cons (pv 0) (pa_cons pe_int pa_nil))) (fun _ _ => rfl)))) pss_nil)
      (pss_cons (ps_if (pt_not (pt_val (pe_callB (id := "isinstance") (r := rIsi K) call_isi (by rfl) Z.m_isinstance (by decide +kernel) (pa_cons (pv 1) (pa_cons (pe_bltn (u := .type "tuple") (v := .ty "tuple") (by rfl) Z.m_tuple (by decide +kernel) rfl) pa_nil))))) (pss_one (ps_ret (pe_tup (pa_cons (pv 1) pa_nil)))) pss_nil)
      (pss_cons (ps_if (pt_cmpR op_eq (pv 3) pe_int (nomark _)) (pss_one (ps_ret (pe_callTy call_list_of (by rfl) Z.m_list (by decide +kernel) (pa_cons (pv 1) pa_nil)))) pss_nil)
      (pss_cons (ps_if (PW.pt (pw_or (pt_cmpR op_eq (pv 3) pe_int (nomark _)) (pw_or1 (pt_cmpR op_eq (pe_callB call_len_seq (by rfl) Z.m_len PySem.boot_len (pa_cons (pv 1) pa_nil)) pe_int (nomark _))))) (pss_one (ps_ret (pe_op op_catA (pv 1) (pe_tup (pa_cons pe_int pa_nil))))) pss_nil)
      (pss_cons (ps_if (pt_cmpR op_eq (pv 3) pe_int (nomark _)) (pss_one (ps_ret (pe_slice sl_tupA (pv 1) po_none (po_some (pe_un un_neg pe_int))))) pss_nil)
      (pss_cons (ps_if (pt_cmpR op_eq (pv 3) pe_int (nomark _)) (pss_one (ps_ret (pe_op op_catA (pe_slice sl_tupA (pv 1) (po_some pe_int) po_none) (pe_slice sl_tupA (pv 1) po_none (po_some pe_int))))) pss_nil)
      (pss_one (ps_ret (pe_callTy call_tuple_of (by rfl) Z.m_tuple (by decide +kernel) (pa_cons (pe_lc (own := [("a", 4)]) (g := gName 4) (tt := tYes) (by rfl) sc__law_bent.nd (pi_tup (pv 1)) (blkOk_by (own := [("a", 4)]) (N := ["pool", "value", "at", "turn", "a"]) (sc := defScope s__law_bent) (by decide +kernel)) (fun _ _ _ _ _ => (pg_name (i := 4) sc__law_bent.nd rfl (.inl rfl))) (fun _ _ _ _ _ => pts_nil) (fun _ _ _ _ _ => (pe_ifExp (pt_val (pe_callB (id := "isinstance") (r := rIsi K) call_isi (by rfl) Z.m_isinstance (by decide +kernel) (pa_cons (pv 4) (pa_cons (pe_bltn (u := .type "int") (v := .ty "int") (by rfl) Z.m_int (by decide +kernel) rfl) pa_nil)))) (pe_op op_mulB pe_int (pv 4)) (pv 4)))) pa_nil))))))))))))), ?_⟩
      refine ⟨BentMid p (.ref a) H, ?_, ?_⟩
      · refine ⟨_, rfl, _, _, _, _, _, rfl, ClsV.ty _, ty, kit_ty ht, true, rfl, iteT ⟨_, rfl, _, _, rfl, .inr (SqT.of ha), _, _, rfl, rfl, _, rfl, ite2 (fun e1 => ?_) (fun e1 => iteF ⟨rfl, hP, But.refl _ _⟩)⟩⟩
        have e1' : (0 : Int) < xs.length := of_decide_eq_true e1
        refine ⟨_, rfl, p, _, rfl, by decide, by decide, hP, fun v1 H1 l1 u1 P1 B1 => ⟨_, _, rfl, rfl, _, rfl, ite2 (fun e2 => ?_) (fun e2 => ⟨rfl, P1, B1⟩)⟩⟩
        have ha1 := B1.keep _ _ (hP.ne ha) ha
        refine ⟨_, rfl, _, rfl, _, _, rfl, .inr (SqT.of ha1), p, _, rfl, e1', Nat.lt_of_le_of_lt (show ((xs.length : Nat) : Int).natAbs ≤ 2 ^ 9 by omega) (Nat.pow_lt_pow_right (by decide) (by decide)), P1, fun j H2 l2 u2 P2 B2 => ?_⟩
        obtain ⟨jn, rfl⟩ := Int.eq_ofNat_of_zero_le l2
        have hj : jn < xs.length := by omega
        have K2 := B1.keep.trans B2.keep
        have ha2 := K2 _ _ (hP.ne ha) ha
        -- value[:at]
        refine ⟨_, rfl, _, rfl, _, rfl, sl_h ha2 fun H3 r3 s3 hr3 => ?_⟩
        rw [cut_take] at hr3
        have P3 := P2.same s3
        have K3 := K2.trans (Same.keep s3)
        have g : xs[jn]? = some xs[jn] := List.getElem?_eq_getElem hj
        -- the bent item
        refine ⟨_, rfl, _, rfl, _, rfl, _, _, _, _, rfl, rfl, SqT.of (s3 _ _ ha2), atI_nat g, p, xs[jn], B, rfl, P3, (hx _ (List.mem_of_getElem? g)).keep hP K3, hB1, hB2, fun H4 v4 P4 K4 d4 => ⟨Nat.le_of_lt (small1000 (show 1 ≤ 1000 by decide)), fun c nc => ?_⟩⟩
        have s5 := same_upd (o := .tup [v4]) nc
        have P5 := P4.same s5
        have K5 := K4.trans (Same.keep s5)
        have hr5 := K5 _ _ (P3.ne hr3) hr3
        have hc5 : (upd H4 c (.tup [v4])) c = some (.tup [v4]) := upd_same
        have d5 := d4.same s5
        generalize upd H4 c (.tup [v4]) = H5 at *
        have lt1 : (xs.take jn).length = jn := by rw [List.length_take]; omega
        refine cat_h hr5 hc5 (by rw [lt1]; show jn + 1 ≤ 1000; omega) fun H6 r6 s6 hr6 => ?_
        have K6 := (K3.trans K5).trans (Same.keep s6)
        have ha6 := K6 _ _ (hP.ne ha) ha
        -- value[at + 1:]
        refine ⟨_, rfl, _, rfl, _, _, rfl, rfl, _, rfl, ?_⟩
        unfold tNoPart
        refine sl_h ha6 fun H7 r7 s7 hr7 => ?_
        rw [show ((jn : Int) + 1) = ((jn + 1 : Nat) : Int) from rfl, cut_drop] at hr7
        refine cat_h (s7 _ _ hr6) hr7 (by rw [List.length_append, lt1, List.length_drop]; show jn + 1 + _ ≤ 1000; omega) fun H8 r8 s8 hr8 => ?_
        have K8 := (K6.trans (Same.keep s7)).trans (Same.keep s8)
        refine q _ _ (((P5.same s6).same s7).same s8) K8 (.tup hr8 ?_ fun x hxx => ?_)
        · rw [List.length_append, List.length_append, lt1, List.length_drop]
          show jn + 1 + _ ≤ B + 1
          omega
        · have old : ∀ y ∈ xs, Dt p H8 (B + 1) (m + 1) y := fun y hy => ((hx y hy).keep hP K8).up (Nat.le_succ B) (Nat.le_succ m)
          rcases List.mem_append.mp hxx with h | h
          · rcases List.mem_append.mp h with h | h
            · exact old x (List.mem_of_mem_take h)
            · rw [List.mem_singleton.mp h]
              exact ((d5.same s6).same s7).same s8
          · exact old x (List.mem_of_mem_drop h)
      intro σ H1 hW
      obtain ⟨rfl, P1, B1⟩ := hW
      have d1 := d.keep hP B1.keep
      refine ⟨_, rfl, p, _, rfl, by decide, by decide, P1, fun t H2 l2 u2 P2 B2 => ?_⟩
      have d2 := d1.keep P1 B2.keep
      have K2 : Keep p H H2 := B1.keep.trans B2.keep
      have ha2 : H2 a = some (.tup xs) := K2 _ _ (hP.ne ha) ha
      have ty2 : TyX K H2 (.ref a) (.type "tuple") := .base (.tup ha2)
      refine ⟨_, rfl, _, _, _, _, _, rfl, ClsV.ty _, ty2, kit_ty (b := "int") (r := false) (by decide +kernel), false, rfl, iteF ?_⟩
      -- (None, True, 'x', (), [1], 0, -1)
      refine ⟨_, rfl, _, _, rfl, rfl, _, rfl, ite2 (fun e3 => ?_) (fun e3 => ?_)⟩
      · refine ⟨Nat.zero_le _, fun e ne => ⟨Nat.le_of_lt (small1000 (show 1 ≤ 1000 by decide)), fun l nl => ⟨_, rfl, Nat.le_of_lt (small1000 (show 7 ≤ 1000 by decide)), fun tt ntt => ?_⟩⟩⟩
        have s3 := same_upd (o := .tup []) ne
        have s4 := same_upd (o := .lst [.int 1]) nl
        have s5 := same_upd (o := .tup [.non, .bl true, .str "x", .ref e, .ref l, .int 0, .int (-1)]) ntt
        have P3 := P2.same s3
        have lp : l ≠ p := by
          obtain ⟨q0, h0⟩ := P3.q
          exact (h0.ne_free nl).1.symm
        have P5 := (P3.same s4).same s5
        have he := s5 _ _ (s4 _ _ (upd_same (H := H2) (a := e) (o := .tup [])))
        have hl2 := s5 _ _ (upd_same (H := upd H2 e (.tup [])) (a := l) (o := .lst [.int 1]))
        have htt := upd_same (H := upd (upd H2 e (.tup [])) l (.lst [.int 1])) (a := tt) (o := .tup [.non, .bl true, .str "x", .ref e, .ref l, .int 0, .int (-1)])
        have KS := (Same.keep (p := p) s3).trans ((Same.keep s4).trans (Same.keep s5))
        generalize upd (upd (upd H2 e (.tup [])) l (.lst [.int 1])) tt (.tup [.non, .bl true, .str "x", .ref e, .ref l, .int 0, .int (-1)]) = H5 at *
        refine ⟨_, rfl, p, _, rfl, by decide, by decide, P5, fun v6 H6 l6 u6 P6 B6 => ?_⟩
        have K6 := K2.trans (KS.trans B6.keep)
        have htt6 := B6.keep _ _ (P5.ne htt) htt
        have he6 := B6.keep _ _ (P5.ne he) he
        have hl6 := B6.keep _ _ lp hl2
        have hv : v6 = 0 ∨ v6 = 1 ∨ v6 = 2 ∨ v6 = 3 ∨ v6 = 4 ∨ v6 = 5 ∨ v6 = 6 := by omega
        rcases hv with rfl | rfl | rfl | rfl | rfl | rfl | rfl
        · exact ⟨_, _, _, _, rfl, rfl, SqT.of htt6, atI_nat (j := 0) rfl, q _ _ P6 K6 (.non _)⟩
        · exact ⟨_, _, _, _, rfl, rfl, SqT.of htt6, atI_nat (j := 1) rfl, q _ _ P6 K6 (.bl _ _)⟩
        · exact ⟨_, _, _, _, rfl, rfl, SqT.of htt6, atI_nat (j := 2) rfl, q _ _ P6 K6 (.str _ _)⟩
        · exact ⟨_, _, _, _, rfl, rfl, SqT.of htt6, atI_nat (j := 3) rfl, q _ _ P6 K6 (.tup he6 (Nat.zero_le _) fun x hx => nomatch hx)⟩
        · exact ⟨_, _, _, _, rfl, rfl, SqT.of htt6, atI_nat (j := 4) rfl, q _ _ P6 K6 (.lst hl6 lp (show 1 ≤ B + 1 by omega) fun x hx => by rw [List.mem_singleton.mp hx]; exact .int _ _ (Nat.one_lt_two_pow (by omega)))⟩
        · exact ⟨_, _, _, _, rfl, rfl, SqT.of htt6, atI_nat (j := 5) rfl, q _ _ P6 K6 (.int _ _ (by show 0 < 2 ^ (B + 1); omega))⟩
        · exact ⟨_, _, _, _, rfl, rfl, SqT.of htt6, atI_nat (j := 6) rfl, q _ _ P6 K6 (.int _ _ (by show 1 < 2 ^ (B + 1); omega))⟩
      refine ⟨_, rfl, _, _, _, _, _, rfl, ClsV.ty _, ty2, kit_ty (b := "tuple") (r := true) (by decide +kernel), true, rfl, iteF ?_⟩
      have old : ∀ (H3 : Hp), Same H2 H3 → ∀ y ∈ xs, Dt p H3 (B + 1) (m + 1) y := fun H3 s3 y hy => (((hx y hy).keep hP K2).same s3).up (Nat.le_succ B) (Nat.le_succ m)
      have done : ∀ (H3 : Hp) (r : Addr) (ys : List V), Same H2 H3 → H3 r = some (.tup ys) → ys.length ≤ B + 1 → (∀ y ∈ ys, y ∈ xs ∨ y = .int 1) → Q (.ref r) H3 := fun H3 r ys s3 h1 h2 h3 => q _ _ (P2.same s3) (K2.trans (Same.keep s3)) (.tup h1 h2 fun y hy => by
        rcases h3 y hy with h | h
        · exact old H3 s3 y h
        · rw [h]
          exact .int _ _ (by show 1 < 2 ^ (B + 1); omega))
      have add1 : ∀ (c : Addr), H2 c = none → rCatA K (.ref a) (.ref c) (upd H2 c (.tup [.int 1])) Q := fun c nc => cat_h ((same_upd nc) _ _ ha2) upd_same (by show xs.length + 1 ≤ 1000; omega) fun H3 r s3 hr => done H3 r _ ((same_upd nc).trans s3) hr (by rw [List.length_append]; show xs.length + 1 ≤ B + 1; omega) fun y hy => by
        rcases List.mem_append.mp hy with h | h
        · exact .inl h
        · exact .inr (List.mem_singleton.mp h)
      refine ⟨_, rfl, rfl, _, rfl, ite2 (fun e4 => ?_) (fun e4 => ?_)⟩
      · refine ⟨_, rfl, a, xs, rfl, .inr (SqT.of ha2), fun l nl => ?_⟩
        have lp : l ≠ p := by
          obtain ⟨q0, h0⟩ := P2.q
          exact (h0.ne_free nl).1.symm
        exact q _ _ (P2.same (same_upd nl)) (K2.trans (Same.keep (same_upd nl))) (.lst upd_same lp (by omega) (old _ (same_upd nl)))
      refine ⟨_, rfl, rfl, _, rfl, ite2 (fun e5 => ?_) (fun e5 => ?_)⟩
      · exact ⟨_, rfl, Nat.le_of_lt (small1000 (show 1 ≤ 1000 by decide)), fun c nc => add1 c nc⟩
      refine ⟨_, rfl, _, _, rfl, .inr (SqT.of ha2), rfl, _, rfl, ite2 (fun e6 => ?_) (fun e6 => ?_)⟩
      · exact ⟨_, rfl, Nat.le_of_lt (small1000 (show 1 ≤ 1000 by decide)), fun c nc => add1 c nc⟩
      refine ⟨_, rfl, rfl, _, rfl, ite2 (fun e7 => ?_) (fun e7 => ?_)⟩
      · refine ⟨_, rfl, _, rfl, _, rfl, sl_h ha2 fun H3 r s3 hr => done H3 r _ s3 hr (Nat.le_trans (cutV_length _ _ _) (by omega)) fun y hy => .inl (cut_mem hy)⟩
      refine ⟨_, rfl, rfl, _, rfl, ite2 (fun e8 => ?_) (fun e8 => ?_)⟩
      · refine ⟨_, rfl, 1, rfl, ?_⟩
        unfold tNoPart
        refine sl_h ha2 fun H3 r3 s3 hr3 => ⟨_, rfl, 1, rfl, sl_h (s3 _ _ ha2) fun H4 r4 s4 hr4 => ?_⟩
        rw [show (1 : Int) = ((1 : Nat) : Int) from rfl, cut_drop] at hr3
        rw [show (1 : Int) = ((1 : Nat) : Int) from rfl, cut_take] at hr4
        have l1 : (xs.drop 1).length + (xs.take 1).length ≤ xs.length := by
          rw [List.length_drop, List.length_take]
          have : 0 < xs.length ∨ xs.length = 0 := by omega
          omega
        refine cat_h (s4 _ _ hr3) hr4 (by omega) fun H5 r5 s5 hr5 => done H5 r5 _ ((s3.trans s4).trans s5) hr5 (by rw [List.length_append]; omega) fun y hy => .inl ?_
        rcases List.mem_append.mp hy with h | h
        · exact List.mem_of_mem_drop h
        · exact List.mem_of_mem_take h
      -- the doubled items
      refine ⟨_, rfl, a, rfl, ⟨_, SqT.of ha2⟩, fun D nD => ?_⟩
      refine lc_tup (xs := xs) (fun i H' => ∃ H0 acc, Same H2 H0 ∧ H0 D = none ∧ H' = upd H0 D (.lst acc) ∧ acc.length = i ∧ ∀ x ∈ acc, Dt p H2 (B + 1) (m + 1) x) ⟨H2, [], Same.refl _, nD, rfl, rfl, fun _ h => nomatch h⟩ (fun i H' _ hW => ?_) (fun i x H' hxi hW => ?_) (fun H' hW => ?_)
      · obtain ⟨H0, acc, s0, n0, rfl, _⟩ := hW
        exact SqT.of ((s0.trans (same_upd n0)) _ _ ha2)
      · obtain ⟨H0, acc, s0, n0, rfl, hlen, hacc⟩ := hW
        have hi := lt_of_get hxi
        have dx := (hx x (List.mem_of_getElem? hxi)).keep hP K2
        obtain ⟨Tx, ix, tyx, hix, cx⟩ := (dx.same (s0.trans (same_upd (o := .lst acc) n0))).dbl (K := K)
        have room : acc.length < sizeLine := small1000 (by omega)
        have next : ∀ y : V, Dt p H2 (B + 1) (m + 1) y → ∃ H0' acc', Same H2 H0' ∧ H0' D = none ∧ upd (upd H0 D (.lst acc)) D (.lst (acc ++ [y])) = upd H0' D (.lst acc') ∧ acc'.length = i + 1 ∧ ∀ x ∈ acc', Dt p H2 (B + 1) (m + 1) x := fun y dy => ⟨H0, acc ++ [y], s0, n0, by rw [upd_upd], by rw [List.length_append, hlen]; rfl, fun z hz => by
          rcases List.mem_append.mp hz with h | h
          · exact hacc z h
          · rw [List.mem_singleton.mp h]
            exact dy⟩
        refine ⟨rfl, ?_⟩
        unfold tYes
        refine iteT ⟨_, rfl, _, _, _, _, _, rfl, ClsV.ty _, tyx, kit_ty hix, ix, rfl, ?_⟩
        cases ix with
        | false => exact iteF ⟨_, rfl, acc, upd_same, room, next x (dx.up (Nat.le_succ B) (Nat.le_succ m))⟩
        | true =>
          rcases cx rfl with ⟨kb, rfl⟩ | ⟨n1, rfl, hn1⟩
          · refine iteT ⟨_, rfl, .inr ⟨_, _, rfl, rfl, acc, upd_same, room, next _ (.int _ _ ?_)⟩⟩
            have : 4 ≤ 2 ^ (B + 1) := Nat.pow_le_pow_right (n := 2) (by decide) (show 2 ≤ B + 1 by omega)
            cases kb <;> show (_ : Int).natAbs < 2 ^ (B + 1)
            · show 0 < 2 ^ (B + 1); omega
            · show 2 < 2 ^ (B + 1); omega
          · exact iteT ⟨_, rfl, .inl ⟨_, _, rfl, rfl, .inl ⟨by decide, by decide⟩, acc, upd_same, room, next _ (.int _ _ (by omega))⟩⟩
      · obtain ⟨H0, acc, s0, n0, rfl, hlen, hacc⟩ := hW
        refine ⟨D, acc, rfl, .inl ⟨SqL.of upd_same, fun l nl => ?_⟩⟩
        have sA := (s0.trans (same_upd (o := .lst acc) n0)).trans (same_upd (o := .tup acc) nl)
        exact q _ _ (P2.same sA) (K2.trans (Same.keep sA)) (.tup upd_same (by omega) fun x hxx => (hacc x hxx).same sA)
    · refine ⟨_, (pss_cut (ps_if (PW.pt (pw_and (pt_val (pe_callB (id := "isinstance") (r := rIsi K) call_isi (by rfl) Z.m_isinstance (by decide +kernel) (pa_cons (pv 1) (pa_cons (pe_bltn (u := .type "tuple") (v := .ty "tuple") (by rfl) Z.m_tuple (by decide +kernel) rfl) pa_nil)))) (pw_and (pt_cmpR op_gt (pe_callB call_len_seq (by rfl) Z.m_len PySem.boot_len (pa_cons (pv 1) pa_nil)) pe_int (nomark _)) (pw_and1 (pt_cmpR op_gt (pe_call C_law_draw.G hr (by rfl) C_law_draw.m C_law_draw.kp C_law_draw.b .nil pass0 (pa_cons (pv 0) (pa_cons pe_int pa_nil))) pe_int (nomark _)))))) (pss_cons ps_never
      (pss_one ps_never)) pss_nil)
      (pss_cons (ps_set (i := 3) sc__law_bent.nd rfl (.inl rfl) (pe_call C_law_draw.G hr (by rfl) C_law_draw.m C_law_draw.kp C_law_draw.b .nil pass0 (pa_cons (pv 0) (pa_cons pe_int pa_nil))))
      (pss_cons (ps_if (PW.pt (pw_and (pt_val (pe_callB (id := "isinstance") (r := rIsi K) call_isi (by rfl) Z.m_isinstance (by decide +kernel) (pa_cons (pv 1) (pa_cons (pe_bltn (u := .type "int") (v := .ty "int") (by rfl) Z.m_int (by decide +kernel) rfl) pa_nil)))) (pw_and (pt_not (pt_val (pe_callB (id := "isinstance") (r := rIsi K) call_isi (by rfl) Z.m_isinstance (by decide +kernel) (pa_cons (pv 1) (pa_cons (pe_bltn (u := .type "bool") (v := .ty "bool") (by rfl) Z.m_bool (by decide +kernel) rfl) pa_nil))))) (pw_and1 (pt_cmpR op_lt (pv 3) pe_int (nomark _)))))) (pss_one (ps_ret (pe_ix (r := rIxL K) ix_list (pe_lst (pa_cons (pe_op op_add (pv 1) pe_int) (pa_cons (pe_op op_sub (pv 1) pe_int) (pa_cons (pe_un un_neg (pv 1)) (pa_cons pe_int (pa_cons (pe_op op_mul pe_int (pv 1)) pa_nil)))))) (pv 3) (fun _ _ => rfl)))) pss_nil)
      (pss_cons (ps_if (pt_cmpR op_lt (pv 3) pe_int (nomark _)) (pss_one (ps_ret (pe_ix (r := rIxT K) ix_tup (pe_tup (pa_cons pe_non (pa_cons pe_bl (pa_cons pe_str (pa_cons (pe_tup pa_nil) (pa_cons (pe_lst (pa_cons pe_int pa_nil)) (pa_cons pe_int (pa_cons (pe_un un_neg pe_int) pa_nil)))))))) (pe_call C_law_draw.G hr (by rfl) C_law_draw.m C_law_draw.kp C_law_draw.b .nil pass0 (pa_cons (pv 0) (pa_cons pe_int pa_nil))) (fun _ _ => rfl)))) pss_nil)
      (pss_cons (ps_if (pt_not (pt_val (pe_callB (id := "isinstance") (r := rIsi K) call_isi (by rfl) Z.m_isinstance (by decide +kernel) (pa_cons (pv 1) (pa_cons (pe_bltn (u := .type "tuple") (v := .ty "tuple") (by rfl) Z.m_tuple (by decide +kernel) rfl) pa_nil))))) (pss_one (ps_ret (pe_tup (pa_cons (pv 1) pa_nil)))) pss_nil)
      (pss_cons (ps_if (pt_cmpR op_eq (pv 3) pe_int (nomark _)) (pss_one (ps_ret (pe_callTy call_list_of (by rfl) Z.m_list (by decide +kernel) (pa_cons (pv 1) pa_nil)))) pss_nil)
      (pss_cons (ps_if (PW.pt (pw_or (pt_cmpR op_eq (pv 3) pe_int (nomark _)) (pw_or1 (pt_cmpR op_eq (pe_callB call_len_seq (by rfl) Z.m_len PySem.boot_len (pa_cons (pv 1) pa_nil)) pe_int (nomark _))))) (pss_one (ps_ret (pe_op op_catA (pv 1) (pe_tup (pa_cons pe_int pa_nil))))) pss_nil)
      (pss_cons (ps_if (pt_cmpR op_eq (pv 3) pe_int (nomark _)) (pss_one (ps_ret (pe_slice sl_tupA (pv 1) po_none (po_some (pe_un un_neg pe_int))))) pss_nil)
      (pss_cons (ps_if (pt_cmpR op_eq (pv 3) pe_int (nomark _)) (pss_one (ps_ret (pe_op op_catA (pe_slice sl_tupA (pv 1) (po_some pe_int) po_none) (pe_slice sl_tupA (pv 1) po_none (po_some pe_int))))) pss_nil)
      (pss_one (ps_ret (pe_callTy call_tuple_of (by rfl) Z.m_tuple (by decide +kernel) (pa_cons (pe_lc (own := [("a", 4)]) (g := gName 4) (tt := tYes) (by rfl) sc__law_bent.nd (pi_tup (pv 1)) (blkOk_by (own := [("a", 4)]) (N := ["pool", "value", "at", "turn", "a"]) (sc := defScope s__law_bent) (by decide +kernel)) (fun _ _ _ _ _ => (pg_name (i := 4) sc__law_bent.nd rfl (.inl rfl))) (fun _ _ _ _ _ => pts_nil) (fun _ _ _ _ _ => (pe_ifExp (pt_val (pe_callB (id := "isinstance") (r := rIsi K) call_isi (by rfl) Z.m_isinstance (by decide +kernel) (pa_cons (pv 4) (pa_cons (pe_bltn (u := .type "int") (v := .ty "int") (by rfl) Z.m_int (by decide +kernel) rfl) pa_nil)))) (pe_op op_mulB pe_int (pv 4)) (pv 4)))) pa_nil))))))))))))), ?_⟩
      refine ⟨BentMid p (.int i) H, ⟨_, rfl, _, _, _, _, _, rfl, ClsV.ty _, ty, kit_ty ht, false, rfl, iteF ⟨rfl, hP, But.refl _ _⟩⟩, ?_⟩
      intro σ H1 hW
      obtain ⟨rfl, P1, B1⟩ := hW
      have d1 := d.keep hP B1.keep
      refine ⟨_, rfl, p, _, rfl, by decide, by decide, P1, fun t H2 l2 u2 P2 B2 => ?_⟩
      have d2 := d1.keep P1 B2.keep
      have K2 : Keep p H H2 := B1.keep.trans B2.keep
      have ty2 : TyX K H2 (.int i) (.type "int") := .base (.int i)
      refine ⟨_, rfl, _, _, _, _, _, rfl, ClsV.ty _, ty2, kit_ty (b := "int") (r := true) (by decide +kernel), true, rfl, iteT ⟨_, rfl, _, _, _, _, _, rfl, ClsV.ty _, ty2, kit_ty (b := "bool") (r := false) (by decide +kernel), false, rfl, iteT ⟨_, rfl, _, _, rfl, rfl, _, rfl, ite2 (fun e5 => ?_) (fun e5 => ?_)⟩⟩⟩
      · have e5' : t < 5 := of_decide_eq_true e5
        refine ⟨_, rfl, _, _, rfl, rfl, _, rfl, _, _, rfl, rfl, _, rfl, _, rfl, _, rfl, _, _, rfl, rfl, .inl ⟨by decide, by decide⟩, Nat.le_of_lt (small1000 (show 5 ≤ 1000 by decide)), fun l nl => ⟨_, rfl, ?_⟩⟩
        have P3 := P2.same (same_upd (o := .lst [.int (i + 1), .int (i - 1), .int (-i), .int 0, .int (2 * i)]) nl)
        have K3 := K2.trans (Same.keep (same_upd (o := .lst [.int (i + 1), .int (i - 1), .int (-i), .int 0, .int (2 * i)]) nl))
        have hv : t = 0 ∨ t = 1 ∨ t = 2 ∨ t = 3 ∨ t = 4 := by omega
        rcases hv with rfl | rfl | rfl | rfl | rfl
        · exact ⟨_, _, _, _, rfl, rfl, SqL.of upd_same, atI_nat (j := 0) rfl, q _ _ P3 K3 (.int _ _ (by omega))⟩
        · exact ⟨_, _, _, _, rfl, rfl, SqL.of upd_same, atI_nat (j := 1) rfl, q _ _ P3 K3 (.int _ _ (by omega))⟩
        · exact ⟨_, _, _, _, rfl, rfl, SqL.of upd_same, atI_nat (j := 2) rfl, q _ _ P3 K3 (.int _ _ (by omega))⟩
        · exact ⟨_, _, _, _, rfl, rfl, SqL.of upd_same, atI_nat (j := 3) rfl, q _ _ P3 K3 (.int _ _ (by show 0 < 2 ^ (B + 1); omega))⟩
        · exact ⟨_, _, _, _, rfl, rfl, SqL.of upd_same, atI_nat (j := 4) rfl, q _ _ P3 K3 (.int _ _ (by omega))⟩
      -- (None, True, 'x', (), [1], 0, -1)
      refine ⟨_, rfl, _, _, rfl, rfl, _, rfl, ite2 (fun e3 => ?_) (fun e3 => ?_)⟩
      · refine ⟨Nat.zero_le _, fun e ne => ⟨Nat.le_of_lt (small1000 (show 1 ≤ 1000 by decide)), fun l nl => ⟨_, rfl, Nat.le_of_lt (small1000 (show 7 ≤ 1000 by decide)), fun tt ntt => ?_⟩⟩⟩
        have s3 := same_upd (o := .tup []) ne
        have s4 := same_upd (o := .lst [.int 1]) nl
        have s5 := same_upd (o := .tup [.non, .bl true, .str "x", .ref e, .ref l, .int 0, .int (-1)]) ntt
        have P3 := P2.same s3
        have lp : l ≠ p := by
          obtain ⟨q0, h0⟩ := P3.q
          exact (h0.ne_free nl).1.symm
        have P5 := (P3.same s4).same s5
        have he := s5 _ _ (s4 _ _ (upd_same (H := H2) (a := e) (o := .tup [])))
        have hl2 := s5 _ _ (upd_same (H := upd H2 e (.tup [])) (a := l) (o := .lst [.int 1]))
        have htt := upd_same (H := upd (upd H2 e (.tup [])) l (.lst [.int 1])) (a := tt) (o := .tup [.non, .bl true, .str "x", .ref e, .ref l, .int 0, .int (-1)])
        have KS := (Same.keep (p := p) s3).trans ((Same.keep s4).trans (Same.keep s5))
        generalize upd (upd (upd H2 e (.tup [])) l (.lst [.int 1])) tt (.tup [.non, .bl true, .str "x", .ref e, .ref l, .int 0, .int (-1)]) = H5 at *
        refine ⟨_, rfl, p, _, rfl, by decide, by decide, P5, fun v6 H6 l6 u6 P6 B6 => ?_⟩
        have K6 := K2.trans (KS.trans B6.keep)
        have htt6 := B6.keep _ _ (P5.ne htt) htt
        have he6 := B6.keep _ _ (P5.ne he) he
        have hl6 := B6.keep _ _ lp hl2
        have hv : v6 = 0 ∨ v6 = 1 ∨ v6 = 2 ∨ v6 = 3 ∨ v6 = 4 ∨ v6 = 5 ∨ v6 = 6 := by omega
        rcases hv with rfl | rfl | rfl | rfl | rfl | rfl | rfl
        · exact ⟨_, _, _, _, rfl, rfl, SqT.of htt6, atI_nat (j := 0) rfl, q _ _ P6 K6 (.non _)⟩
        · exact ⟨_, _, _, _, rfl, rfl, SqT.of htt6, atI_nat (j := 1) rfl, q _ _ P6 K6 (.bl _ _)⟩
        · exact ⟨_, _, _, _, rfl, rfl, SqT.of htt6, atI_nat (j := 2) rfl, q _ _ P6 K6 (.str _ _)⟩
        · exact ⟨_, _, _, _, rfl, rfl, SqT.of htt6, atI_nat (j := 3) rfl, q _ _ P6 K6 (.tup he6 (Nat.zero_le _) fun x hx => nomatch hx)⟩
        · exact ⟨_, _, _, _, rfl, rfl, SqT.of htt6, atI_nat (j := 4) rfl, q _ _ P6 K6 (.lst hl6 lp (show 1 ≤ B + 1 by omega) fun x hx => by rw [List.mem_singleton.mp hx]; exact .int _ _ (Nat.one_lt_two_pow (by omega)))⟩
        · exact ⟨_, _, _, _, rfl, rfl, SqT.of htt6, atI_nat (j := 5) rfl, q _ _ P6 K6 (.int _ _ (by show 0 < 2 ^ (B + 1); omega))⟩
        · exact ⟨_, _, _, _, rfl, rfl, SqT.of htt6, atI_nat (j := 6) rfl, q _ _ P6 K6 (.int _ _ (by show 1 < 2 ^ (B + 1); omega))⟩
      -- (value,)
      refine ⟨_, rfl, _, _, _, _, _, rfl, ClsV.ty _, ty2, kit_ty (b := "tuple") (r := false) (by decide +kernel), false, rfl, iteT ?_⟩
      refine ⟨_, rfl, Nat.le_of_lt (small1000 (show 1 ≤ 1000 by decide)), fun c nc => q _ _ (P2.same (same_upd nc)) (K2.trans (Same.keep (same_upd nc))) (.tup upd_same (show 1 ≤ B + 1 by omega) fun x hx => ?_)⟩
      rw [List.mem_singleton.mp hx]
      exact ((d2.same (same_upd nc)).up (Nat.le_succ B) (Nat.le_refl _))
    · refine ⟨_, (pss_cut (ps_if (PW.pt (pw_and (pt_val (pe_callB (id := "isinstance") (r := rIsi K) call_isi (by rfl) Z.m_isinstance (by decide +kernel) (pa_cons (pv 1) (pa_cons (pe_bltn (u := .type "tuple") (v := .ty "tuple") (by rfl) Z.m_tuple (by decide +kernel) rfl) pa_nil)))) (pw_and (pt_cmpR op_gt (pe_callB call_len_seq (by rfl) Z.m_len PySem.boot_len (pa_cons (pv 1) pa_nil)) pe_int (nomark _)) (pw_and1 (pt_cmpR op_gt (pe_call C_law_draw.G hr (by rfl) C_law_draw.m C_law_draw.kp C_law_draw.b .nil pass0 (pa_cons (pv 0) (pa_cons pe_int pa_nil))) pe_int (nomark _)))))) (pss_cons ps_never
      (pss_one ps_never)) pss_nil)
      (pss_cons (ps_set (i := 3) sc__law_bent.nd rfl (.inl rfl) (pe_call C_law_draw.G hr (by rfl) C_law_draw.m C_law_draw.kp C_law_draw.b .nil pass0 (pa_cons (pv 0) (pa_cons pe_int pa_nil))))
      (pss_cons (ps_if (PW.pt (pw_and (pt_val (pe_callB (id := "isinstance") (r := rIsi K) call_isi (by rfl) Z.m_isinstance (by decide +kernel) (pa_cons (pv 1) (pa_cons (pe_bltn (u := .type "int") (v := .ty "int") (by rfl) Z.m_int (by decide +kernel) rfl) pa_nil)))) (pw_and (pt_not (pt_val (pe_callB (id := "isinstance") (r := rIsi K) call_isi (by rfl) Z.m_isinstance (by decide +kernel) (pa_cons (pv 1) (pa_cons (pe_bltn (u := .type "bool") (v := .ty "bool") (by rfl) Z.m_bool (by decide +kernel) rfl) pa_nil))))) (pw_and1 (pt_cmpR op_lt (pv 3) pe_int (nomark _)))))) (pss_one (ps_ret (pe_ix (r := rIxL K) ix_list (pe_lst (pa_cons (pe_op op_add (pv 1) pe_int) (pa_cons (pe_op op_sub (pv 1) pe_int) (pa_cons (pe_un un_neg (pv 1)) (pa_cons pe_int (pa_cons (pe_op op_mul pe_int (pv 1)) pa_nil)))))) (pv 3) (fun _ _ => rfl)))) pss_nil)
      (pss_cons (ps_if (pt_cmpR op_lt (pv 3) pe_int (nomark _)) (pss_one (ps_ret (pe_ix (r := rIxT K) ix_tup (pe_tup (pa_cons pe_non (pa_cons pe_bl (pa_cons pe_str (pa_cons (pe_tup pa_nil) (pa_cons (pe_lst (pa_cons pe_int pa_nil)) (pa_cons pe_int (pa_cons (pe_un un_neg pe_int) pa_nil)))))))) (pe_call C_law_draw.G hr (by rfl) C_law_draw.m C_law_draw.kp C_law_draw.b .nil pass0 (pa_cons (pv 0) (pa_cons pe_int pa_nil))) (fun _ _ => rfl)))) pss_nil)
      (pss_cons (ps_if (pt_not (pt_val (pe_callB (id := "isinstance") (r := rIsi K) call_isi (by rfl) Z.m_isinstance (by decide +kernel) (pa_cons (pv 1) (pa_cons (pe_bltn (u := .type "tuple") (v := .ty "tuple") (by rfl) Z.m_tuple (by decide +kernel) rfl) pa_nil))))) (pss_one (ps_ret (pe_tup (pa_cons (pv 1) pa_nil)))) pss_nil)
      (pss_cons (ps_if (pt_cmpR op_eq (pv 3) pe_int (nomark _)) (pss_one (ps_ret (pe_callTy call_list_of (by rfl) Z.m_list (by decide +kernel) (pa_cons (pv 1) pa_nil)))) pss_nil)
      (pss_cons (ps_if (PW.pt (pw_or (pt_cmpR op_eq (pv 3) pe_int (nomark _)) (pw_or1 (pt_cmpR op_eq (pe_callB call_len_seq (by rfl) Z.m_len PySem.boot_len (pa_cons (pv 1) pa_nil)) pe_int (nomark _))))) (pss_one (ps_ret (pe_op op_catA (pv 1) (pe_tup (pa_cons pe_int pa_nil))))) pss_nil)
      (pss_cons (ps_if (pt_cmpR op_eq (pv 3) pe_int (nomark _)) (pss_one (ps_ret (pe_slice sl_tupA (pv 1) po_none (po_some (pe_un un_neg pe_int))))) pss_nil)
      (pss_cons (ps_if (pt_cmpR op_eq (pv 3) pe_int (nomark _)) (pss_one (ps_ret (pe_op op_catA (pe_slice sl_tupA (pv 1) (po_some pe_int) po_none) (pe_slice sl_tupA (pv 1) po_none (po_some pe_int))))) pss_nil)
      (pss_one (ps_ret (pe_callTy call_tuple_of (by rfl) Z.m_tuple (by decide +kernel) (pa_cons (pe_lc (own := [("a", 4)]) (g := gName 4) (tt := tYes) (by rfl) sc__law_bent.nd (pi_tup (pv 1)) (blkOk_by (own := [("a", 4)]) (N := ["pool", "value", "at", "turn", "a"]) (sc := defScope s__law_bent) (by decide +kernel)) (fun _ _ _ _ _ => (pg_name (i := 4) sc__law_bent.nd rfl (.inl rfl))) (fun _ _ _ _ _ => pts_nil) (fun _ _ _ _ _ => (pe_ifExp (pt_val (pe_callB (id := "isinstance") (r := rIsi K) call_isi (by rfl) Z.m_isinstance (by decide +kernel) (pa_cons (pv 4) (pa_cons (pe_bltn (u := .type "int") (v := .ty "int") (by rfl) Z.m_int (by decide +kernel) rfl) pa_nil)))) (pe_op op_mulB pe_int (pv 4)) (pv 4)))) pa_nil))))))))))))), ?_⟩
      obtain ⟨T, ty, ht, hi, hb⟩ := Kv
      refine ⟨BentMid p v H, ⟨_, rfl, _, _, _, _, _, rfl, ClsV.ty _, ty _ (Keep.refl p H), kit_ty ht, false, rfl, iteF ⟨rfl, hP, But.refl _ _⟩⟩, ?_⟩
      intro σ H1 hW
      obtain ⟨rfl, P1, B1⟩ := hW
      have d1 := d.keep hP B1.keep
      refine ⟨_, rfl, p, _, rfl, by decide, by decide, P1, fun t H2 l2 u2 P2 B2 => ?_⟩
      have d2 := d1.keep P1 B2.keep
      have K2 : Keep p H H2 := B1.keep.trans B2.keep
      have ty2 := ty _ K2
      have ifs : ∀ (A B : Prop), B → (if ib = true then (if (!bb) = true then A else B) else B) := fun A B h => by
        cases ib
        · exact iteF h
        · rw [hib rfl]
          exact iteT (iteF h)
      refine ⟨_, rfl, _, _, _, _, _, rfl, ClsV.ty _, ty2, kit_ty hi, ib, rfl, ?_⟩
      cases ib with
      | true =>
        refine iteT ⟨_, rfl, _, _, _, _, _, rfl, ClsV.ty _, ty2, kit_ty hb, bb, rfl, ?_⟩
        rw [hib rfl]
        refine iteF ?_
        -- (None, True, 'x', (), [1], 0, -1)
        refine ⟨_, rfl, _, _, rfl, rfl, _, rfl, ite2 (fun e3 => ?_) (fun e3 => ?_)⟩
        · refine ⟨Nat.zero_le _, fun e ne => ⟨Nat.le_of_lt (small1000 (show 1 ≤ 1000 by decide)), fun l nl => ⟨_, rfl, Nat.le_of_lt (small1000 (show 7 ≤ 1000 by decide)), fun tt ntt => ?_⟩⟩⟩
          have s3 := same_upd (o := .tup []) ne
          have s4 := same_upd (o := .lst [.int 1]) nl
          have s5 := same_upd (o := .tup [.non, .bl true, .str "x", .ref e, .ref l, .int 0, .int (-1)]) ntt
          have P3 := P2.same s3
          have lp : l ≠ p := by
            obtain ⟨q0, h0⟩ := P3.q
            exact (h0.ne_free nl).1.symm
          have P5 := (P3.same s4).same s5
          have he := s5 _ _ (s4 _ _ (upd_same (H := H2) (a := e) (o := .tup [])))
          have hl2 := s5 _ _ (upd_same (H := upd H2 e (.tup [])) (a := l) (o := .lst [.int 1]))
          have htt := upd_same (H := upd (upd H2 e (.tup [])) l (.lst [.int 1])) (a := tt) (o := .tup [.non, .bl true, .str "x", .ref e, .ref l, .int 0, .int (-1)])
          have KS := (Same.keep (p := p) s3).trans ((Same.keep s4).trans (Same.keep s5))
          generalize upd (upd (upd H2 e (.tup [])) l (.lst [.int 1])) tt (.tup [.non, .bl true, .str "x", .ref e, .ref l, .int 0, .int (-1)]) = H5 at *
          refine ⟨_, rfl, p, _, rfl, by decide, by decide, P5, fun v6 H6 l6 u6 P6 B6 => ?_⟩
          have K6 := K2.trans (KS.trans B6.keep)
          have htt6 := B6.keep _ _ (P5.ne htt) htt
          have he6 := B6.keep _ _ (P5.ne he) he
          have hl6 := B6.keep _ _ lp hl2
          have hv : v6 = 0 ∨ v6 = 1 ∨ v6 = 2 ∨ v6 = 3 ∨ v6 = 4 ∨ v6 = 5 ∨ v6 = 6 := by omega
          rcases hv with rfl | rfl | rfl | rfl | rfl | rfl | rfl
          · exact ⟨_, _, _, _, rfl, rfl, SqT.of htt6, atI_nat (j := 0) rfl, q _ _ P6 K6 (.non _)⟩
          · exact ⟨_, _, _, _, rfl, rfl, SqT.of htt6, atI_nat (j := 1) rfl, q _ _ P6 K6 (.bl _ _)⟩
          · exact ⟨_, _, _, _, rfl, rfl, SqT.of htt6, atI_nat (j := 2) rfl, q _ _ P6 K6 (.str _ _)⟩
          · exact ⟨_, _, _, _, rfl, rfl, SqT.of htt6, atI_nat (j := 3) rfl, q _ _ P6 K6 (.tup he6 (Nat.zero_le _) fun x hx => nomatch hx)⟩
          · exact ⟨_, _, _, _, rfl, rfl, SqT.of htt6, atI_nat (j := 4) rfl, q _ _ P6 K6 (.lst hl6 lp (show 1 ≤ B + 1 by omega) fun x hx => by rw [List.mem_singleton.mp hx]; exact .int _ _ (Nat.one_lt_two_pow (by omega)))⟩
          · exact ⟨_, _, _, _, rfl, rfl, SqT.of htt6, atI_nat (j := 5) rfl, q _ _ P6 K6 (.int _ _ (by show 0 < 2 ^ (B + 1); omega))⟩
          · exact ⟨_, _, _, _, rfl, rfl, SqT.of htt6, atI_nat (j := 6) rfl, q _ _ P6 K6 (.int _ _ (by show 1 < 2 ^ (B + 1); omega))⟩
        -- (value,)
        refine ⟨_, rfl, _, _, _, _, _, rfl, ClsV.ty _, ty2, kit_ty ht, false, rfl, iteT ?_⟩
        refine ⟨_, rfl, Nat.le_of_lt (small1000 (show 1 ≤ 1000 by decide)), fun c nc => q _ _ (P2.same (same_upd nc)) (K2.trans (Same.keep (same_upd nc))) (.tup upd_same (show 1 ≤ B + 1 by omega) fun x hx => ?_)⟩
        rw [List.mem_singleton.mp hx]
        exact ((d2.same (same_upd nc)).up (Nat.le_succ B) (Nat.le_refl _))
      | false =>
        refine iteF ?_
        -- (None, True, 'x', (), [1], 0, -1)
        refine ⟨_, rfl, _, _, rfl, rfl, _, rfl, ite2 (fun e3 => ?_) (fun e3 => ?_)⟩
        · refine ⟨Nat.zero_le _, fun e ne => ⟨Nat.le_of_lt (small1000 (show 1 ≤ 1000 by decide)), fun l nl => ⟨_, rfl, Nat.le_of_lt (small1000 (show 7 ≤ 1000 by decide)), fun tt ntt => ?_⟩⟩⟩
          have s3 := same_upd (o := .tup []) ne
          have s4 := same_upd (o := .lst [.int 1]) nl
          have s5 := same_upd (o := .tup [.non, .bl true, .str "x", .ref e, .ref l, .int 0, .int (-1)]) ntt
          have P3 := P2.same s3
          have lp : l ≠ p := by
            obtain ⟨q0, h0⟩ := P3.q
            exact (h0.ne_free nl).1.symm
          have P5 := (P3.same s4).same s5
          have he := s5 _ _ (s4 _ _ (upd_same (H := H2) (a := e) (o := .tup [])))
          have hl2 := s5 _ _ (upd_same (H := upd H2 e (.tup [])) (a := l) (o := .lst [.int 1]))
          have htt := upd_same (H := upd (upd H2 e (.tup [])) l (.lst [.int 1])) (a := tt) (o := .tup [.non, .bl true, .str "x", .ref e, .ref l, .int 0, .int (-1)])
          have KS := (Same.keep (p := p) s3).trans ((Same.keep s4).trans (Same.keep s5))
          generalize upd (upd (upd H2 e (.tup [])) l (.lst [.int 1])) tt (.tup [.non, .bl true, .str "x", .ref e, .ref l, .int 0, .int (-1)]) = H5 at *
          refine ⟨_, rfl, p, _, rfl, by decide, by decide, P5, fun v6 H6 l6 u6 P6 B6 => ?_⟩
          have K6 := K2.trans (KS.trans B6.keep)
          have htt6 := B6.keep _ _ (P5.ne htt) htt
          have he6 := B6.keep _ _ (P5.ne he) he
          have hl6 := B6.keep _ _ lp hl2
          have hv : v6 = 0 ∨ v6 = 1 ∨ v6 = 2 ∨ v6 = 3 ∨ v6 = 4 ∨ v6 = 5 ∨ v6 = 6 := by omega
          rcases hv with rfl | rfl | rfl | rfl | rfl | rfl | rfl
          · exact ⟨_, _, _, _, rfl, rfl, SqT.of htt6, atI_nat (j := 0) rfl, q _ _ P6 K6 (.non _)⟩
          · exact ⟨_, _, _, _, rfl, rfl, SqT.of htt6, atI_nat (j := 1) rfl, q _ _ P6 K6 (.bl _ _)⟩
          · exact ⟨_, _, _, _, rfl, rfl, SqT.of htt6, atI_nat (j := 2) rfl, q _ _ P6 K6 (.str _ _)⟩
          · exact ⟨_, _, _, _, rfl, rfl, SqT.of htt6, atI_nat (j := 3) rfl, q _ _ P6 K6 (.tup he6 (Nat.zero_le _) fun x hx => nomatch hx)⟩
          · exact ⟨_, _, _, _, rfl, rfl, SqT.of htt6, atI_nat (j := 4) rfl, q _ _ P6 K6 (.lst hl6 lp (show 1 ≤ B + 1 by omega) fun x hx => by rw [List.mem_singleton.mp hx]; exact .int _ _ (Nat.one_lt_two_pow (by omega)))⟩
          · exact ⟨_, _, _, _, rfl, rfl, SqT.of htt6, atI_nat (j := 5) rfl, q _ _ P6 K6 (.int _ _ (by show 0 < 2 ^ (B + 1); omega))⟩
          · exact ⟨_, _, _, _, rfl, rfl, SqT.of htt6, atI_nat (j := 6) rfl, q _ _ P6 K6 (.int _ _ (by show 1 < 2 ^ (B + 1); omega))⟩
        -- (value,)
        refine ⟨_, rfl, _, _, _, _, _, rfl, ClsV.ty _, ty2, kit_ty ht, false, rfl, iteT ?_⟩
        refine ⟨_, rfl, Nat.le_of_lt (small1000 (show 1 ≤ 1000 by decide)), fun c nc => q _ _ (P2.same (same_upd nc)) (K2.trans (Same.keep (same_upd nc))) (.tup upd_same (show 1 ≤ B + 1 by omega) fun x hx => ?_)⟩
        rw [List.mem_singleton.mp hx]
        exact ((d2.same (same_upd nc)).up (Nat.le_succ B) (Nat.le_refl _))

/-! ### == of tuples of ints -/
theorem eqv_ints : ∀ ns ms : List Int, PyData.eqvAll (ns.map PyData.int) (ms.map PyData.int) = decide (ns = ms)
  | [], [] => by rw [List.map_nil, PyData.eqvAll]; rfl
  | [], m :: ms => by rw [List.map_nil, List.map_cons, PyData.eqvAll]; rfl
  | n :: ns, [] => by rw [List.map_nil, List.map_cons, PyData.eqvAll]; rfl
  | n :: ns, m :: ms => by
    rw [List.map_cons, List.map_cons, PyData.eqvAll, PyData.eqv, eqv_ints ns ms]
    by_cases h : n = m
    · subst h
      by_cases h2 : ns = ms <;> simp [h2]
    · simp [h]
theorem lay_ints : ∀ ns : List Int, PyData.canLayAll0 (ns.map PyData.int) = true
  | [] => by rw [List.map_nil, PyData.canLayAll0]
  | n :: ns => by
    rw [List.map_cons, PyData.canLayAll0, lay_ints ns]
    rfl
theorem depth_ints : ∀ ns : List Int, PyData.depthAll (ns.map PyData.int) ≤ 1
  | [] => by rw [List.map_nil, PyData.depthAll]; omega
  | n :: ns => by
    have := depth_ints ns
    rw [List.map_cons, PyData.depthAll, PyData.depth]
    omega
theorem shaped_ints (ns : List Int) (h : ns.length ≤ 1000) : SeqAt.shaped (.tuple (ns.map PyData.int)) = true := by
  unfold SeqAt.shaped
  rw [Bool.and_eq_true]
  refine ⟨?_, ?_⟩
  · rw [PyData.canLay0, lay_ints]
  · rw [decide_eq_true_iff, PyData.depth]
    have := depth_ints ns
    omega
theorem dp_ints {H : Hp} : ∀ ns : List Int, DpAll K H (ns.map V.int) (ns.map PyData.int)
  | [] => .nil
  | n :: ns => .cons (.int n) (dp_ints ns)

theorem fn_or {CX : CXT} {k : Nat} {f : Addr} {fd : FuncData} {ps : List Str} {sp1 sp2 : Sp} (F1 : FnOk P w K mg base CX k f fd ps sp1) (F2 : FnOk P w K mg base CX k f fd ps sp2) : FnOk P w K mg base CX k f fd ps (fun vs H Q E => sp1 vs H Q E ∨ sp2 vs H Q E) :=
  ⟨fun vs H Q E h => by
    rcases h with h | h
    · exact F1.len _ _ _ _ h
    · exact F2.len _ _ _ _ h,
  fun A outer s H args us vs Q E hr e b r h => by
    rcases h with h | h
    · exact F1.run A outer s H args us vs Q E hr e b r h
    · exact F2.run A outer s H args us vs Q E hr e b r h⟩
def spBents : Sp := fun vs H Q E => spBent 1 vs H Q E ∨ spBent 2 vs H Q E
theorem self_div {g x : Int} (hg : 0 < g) (hd : g ∣ x) (hx : x ≠ 0) (e : x / g = x) : g = 1 := by
  obtain ⟨c, rfl⟩ := hd
  rw [Int.mul_ediv_cancel_left _ (by omega)] at e
  have hc : c ≠ 0 := fun z => hx (by rw [z, Int.mul_zero])
  have e2 : c * g = c * 1 := by rw [Int.mul_comm c g, Int.mul_one]; exact e.symm
  exact Int.eq_of_mul_eq_mul_left hc e2
theorem prim_self {ns : List Int} {x : Int} (hx : x ∈ ns) (h0 : x ≠ 0) : ns = prim ns ↔ gl ns = 1 := by
  have g := gl_pos hx h0
  constructor
  · intro e
    obtain ⟨i, hi⟩ := List.getElem?_of_mem hx
    have h1 := prim_get hi g
    rw [← e, hi] at h1
    exact self_div g (gl_dvd hx) h0 (Option.some.inj h1).symm
  · intro e
    unfold prim
    rw [e, if_neg (by decide)]
    have : (fun n : Int => n / 1) = id := by funext n; exact Int.ediv_one n
    show ns = ns.map (fun n => n / 1)
    rw [this, List.map_id]
abbrev s_law : Stmt := topS 20
theorem sc_law : FnScope ["script", "pool", "d", "turn", "value", "bend", "good", "k", "a"] ["script"] (defScope s_law) := ⟨rfl, rfl, rfl, by decide +kernel, rfl, by decide +kernel, by decide +kernel⟩
def spLaw (K : PySem.W.Frag) : Sp := fun vs H Q _ => ∃ (a : Addr) (ns : List Int), vs = [.ref a] ∧ SqL K H a (ns.map V.int) ∧ ∀ H', Q (.bl true) H'
theorem bl_alike {H : Hp} {b c : Bool} (h : b = true ↔ c = true) : Alike H 0 (.bl b) (.bl c) := by
  have e : b = c := by
    cases b <;> cases c <;> simp_all
  subst e
  exact .bl 0 b
/-- the law's own word on a vector -/
def Gd (H : Hp) (v : V) (L : Nat) : Prop := ∃ a ns, v = .ref a ∧ Vc H a ns ∧ ns.length = L ∧ ns = prim ns
theorem gd_pt {H : Hp} {a : Addr} {ns : List Int} {L : Nat} {n : Int} (hv : Vc H a ns) (hL : ns.length = L) (h0 : ns[0]? = some n) : IsPt H (.ref a) L ↔ (ns = prim ns ∧ 0 < n) := by
  constructor
  · rintro ⟨a', ns', e, h1, h2, ⟨m, h3, h4⟩, h5⟩
    cases e
    have e := vc_eq hv h1
    subst e
    rw [h0] at h3
    cases h3
    exact ⟨(prim_self (List.mem_of_getElem? h0) (by omega)).mpr h5, h4⟩
  · rintro ⟨h1, h2⟩
    exact ⟨a, ns, rfl, hv, hL, ⟨n, h0, h2⟩, (prim_self (List.mem_of_getElem? h0) (by omega)).mp h1⟩
theorem gd_iq {H : Hp} {a : Addr} {ns : List Int} {L : Nat} (hv : Vc H a ns) (hL : ns.length = L) : IsIq H (.ref a) L ↔ (ns = prim ns ∧ 0 < ((ns.drop 1).filter fun n => n != 0).length) := by
  have ha : ((ns.drop 1).any fun n => n != 0) = true ↔ 0 < ((ns.drop 1).filter fun n => n != 0).length := by
    rw [List.length_filter_pos_iff, List.any_eq_true]
  have hm : 0 < ((ns.drop 1).filter fun n => n != 0).length → ∃ x ∈ ns, x ≠ 0 := fun h => by
    obtain ⟨x, hx, h2⟩ := List.length_filter_pos_iff.mp h
    exact ⟨x, List.mem_of_mem_drop hx, by simpa using h2⟩
  constructor
  · rintro ⟨a', ns', e, h1, h2, h3, h5⟩
    cases e
    have e := vc_eq hv h1
    subst e
    obtain ⟨x, hx, h0⟩ := hm (ha.mp h3)
    exact ⟨(prim_self hx h0).mpr h5, ha.mp h3⟩
  · rintro ⟨h1, h2⟩
    obtain ⟨x, hx, h0⟩ := hm h2
    exact ⟨a, ns, rfl, hv, hL, ha.mpr h2, (prim_self hx h0).mp h1⟩
theorem vc_dt {p : Addr} {H : Hp} {a : Addr} {ns : List Int} {B : Nat} (hv : Vc H a ns) (hl : ns.length ≤ B) (hb : ∀ n ∈ ns, n.natAbs < 2 ^ B) : Dt p H B 1 (.ref a) :=
  .tup hv (by rw [List.length_map]; exact hl) fun x hx => by
    obtain ⟨n, hn, rfl⟩ := List.mem_map.mp hx
    exact .int _ _ (hb n hn)
/-- a vector's ints are below what its value is -/
theorem dt_vc {p : Addr} {H : Hp} {a : Addr} {ns : List Int} {B n : Nat} (d : Dt p H B n (.ref a)) (hv : Vc H a ns) : ∀ x ∈ ns, x.natAbs < 2 ^ B := by
  intro x hx
  cases d with
  | tup h _ hm =>
    have e := h.symm.trans hv
    injection e with e
    injection e with e
    subst e
    have := hm (.int x) (List.mem_map.mpr ⟨x, hx, rfl⟩)
    cases this with
    | int _ _ h => exact h
  | lst h _ _ _ =>
    rw [hv] at h
    cases h
theorem ok_law {f : Addr} {fd : FuncData} {k : Nat} (F : Fun K "law" "law" s_law f fd) (Z : Glb mg)
    (C_law_pool : Call P w K mg base k "_law_pool" ["script"] (spPool K))
    (C_law_draw : Call P w K mg base k "_law_draw" ["pool", "many"] spDraw)
    (C_law_same : Call P w K mg base k "_law_same" ["actual", "due"] (spSame 0))
    (C_law_point : Call P w K mg base k "_law_point" ["pool", "d", "most"] spPoint)
    (C_law_prim : Call P w K mg base k "_law_prim" ["v"] spPrimK)
    (C_law_bent : Call P w K mg base k "_law_bent" ["pool", "value"] spBents)
    (C_law_is_vector : Call P w K mg base k "_law_is_vector" ["size", "value"] (spIsVec "size" "value"))
    (Cis_point : Call P w K mg base k "is_point" ["d", "value"] (spIs IsPt))
    (Cis_inequality : Call P w K mg base k "is_inequality" ["d", "value"] (spIs IsIq)) : FnOk P w K mg base CX0 (k + 1) f fd ["script"] (spLaw K) := by
  refine F.ok sc_law (fun vs H Q E h => ?_) (fun cdv A outer s H vs Q E hr h => ?_)
  · obtain ⟨a, ns, rfl, _⟩ := h
    rfl
  · obtain ⟨sa, ns, rfl, hS, q⟩ := h
    refine ⟨_, (pss_cons (ps_set (i := 1) sc_law.nd rfl (.inr rfl) (pe_call C_law_pool.G hr (by rfl) C_law_pool.m C_law_pool.kp C_law_pool.b .nil pass0 (pa_cons (pv 0) pa_nil)))
      (pss_cons (ps_set (i := 2) sc_law.nd rfl (.inl rfl) (pe_op op_add pe_int (pe_call C_law_draw.G hr (by rfl) C_law_draw.m C_law_draw.kp C_law_draw.b .nil pass0 (pa_cons (pv 1) (pa_cons pe_int pa_nil)))))
      (pss_cons (ps_for PassesOwn.never rfl (pi_range1 rfl Z.m_range (pa_cons pe_int pa_nil)) (pg_name (i := 3) sc_law.nd rfl (.inl rfl)) (pss_cons (ps_set (i := 4) sc_law.nd rfl (.inl rfl) (pe_call C_law_point.G hr (by rfl) C_law_point.m C_law_point.kp C_law_point.b .nil pass0 (pa_cons (pv 1) (pa_cons (pv 2) (pa_cons pe_int pa_nil)))))
      (pss_cut (ps_if (pt_cmpR op_eq (pe_call C_law_draw.G hr (by rfl) C_law_draw.m C_law_draw.kp C_law_draw.b .nil pass0 (pa_cons (pv 1) (pa_cons pe_int pa_nil))) pe_int (nomark _)) (pss_one (ps_set (i := 4) sc_law.nd rfl (.inl rfl) (pe_call C_law_prim.G hr (by rfl) C_law_prim.m C_law_prim.kp C_law_prim.b .nil pass0 (pa_cons (pe_lc (own := [("k", 7)]) (g := gName 7) (tt := tYes) (by rfl) sc_law.nd (pi_range1 rfl Z.m_range (pa_cons (pe_op op_add (pv 2) pe_int) pa_nil)) (blkOk_by (own := [("k", 7)]) (N := ["script", "pool", "d", "turn", "value", "bend", "good", "k", "a"]) (sc := defScope s_law) (by decide +kernel)) (fun _ _ _ _ _ => (pg_name (i := 7) sc_law.nd rfl (.inl rfl))) (fun _ _ _ _ _ => pts_nil) (fun _ _ _ _ _ => (pe_op op_sub (pe_call C_law_draw.G hr (by rfl) C_law_draw.m C_law_draw.kp C_law_draw.b .nil pass0 (pa_cons (pv 1) (pa_cons pe_int pa_nil))) pe_int))) pa_nil)))) pss_nil)
      (pss_cut (ps_for PassesOwn.never rfl (pi_range1 rfl Z.m_range (pa_cons (pe_call C_law_draw.G hr (by rfl) C_law_draw.m C_law_draw.kp C_law_draw.b .nil pass0 (pa_cons (pv 1) (pa_cons pe_int pa_nil))) pa_nil)) (pg_name (i := 5) sc_law.nd rfl (.inl rfl)) (pss_one (ps_set (i := 4) sc_law.nd rfl (.inl rfl) (pe_call C_law_bent.G hr (by rfl) C_law_bent.m C_law_bent.kp C_law_bent.b .nil pass0 (pa_cons (pv 1) (pa_cons (pv 4) pa_nil))))))
      (pss_cut (ps_set (i := 6) sc_law.nd rfl (.inl rfl) (pe_and (pe_call C_law_is_vector.G hr (by rfl) C_law_is_vector.m C_law_is_vector.kp C_law_is_vector.b .nil pass0 (pa_cons (pe_op op_add (pv 2) pe_int) (pa_cons (pv 4) pa_nil))) (pe_one (pe_cmpR (op_eqD hr.units) (pv 4) (pe_call C_law_prim.G hr (by rfl) C_law_prim.m C_law_prim.kp C_law_prim.b .nil pass0 (pa_cons (pv 4) pa_nil)) (nomark _)))))
      (pss_cons (ps_if (pt_not (pt_val (pe_call C_law_same.G hr (by rfl) C_law_same.m C_law_same.kp C_law_same.b .nil pass0 (pa_cons (pe_call Cis_point.G hr (by rfl) Cis_point.m Cis_point.kp Cis_point.b .nil pass0 (pa_cons (pv 2) (pa_cons (pv 4) pa_nil))) (pa_cons (pe_and (pv 6) (pe_one (pe_cmpR op_gt (pe_ix (r := rIxT K) ix_tup (pv 4) pe_int (fun _ _ => rfl)) pe_int (nomark _)))) pa_nil))))) (pss_one ps_never) pss_nil)
      (pss_one (ps_if (pt_not (pt_val (pe_call C_law_same.G hr (by rfl) C_law_same.m C_law_same.kp C_law_same.b .nil pass0 (pa_cons (pe_call Cis_inequality.G hr (by rfl) Cis_inequality.m Cis_inequality.kp Cis_inequality.b .nil pass0 (pa_cons (pv 2) (pa_cons (pv 4) pa_nil))) (pa_cons (pe_and (pv 6) (pe_one (pe_cmpR op_gt (pe_callB call_len_seq (by rfl) Z.m_len PySem.boot_len (pa_cons (pe_lc (own := [("a", 8)]) (g := gName 8) (by rfl) sc_law.nd (pi_tup (pe_slice sl_tupA (pv 4) (po_some pe_int) po_none)) (blkOk_by (own := [("a", 8)]) (N := ["script", "pool", "d", "turn", "value", "bend", "good", "k", "a"]) (sc := defScope s_law) (by decide +kernel)) (fun _ _ _ _ _ => (pg_name (i := 8) sc_law.nd rfl (.inl rfl))) (fun _ _ _ _ _ => (pts_one (pt_cmpR op_ne (pv 8) pe_int (nomark _)))) (fun _ _ _ _ _ => (pv 8))) pa_nil)) pe_int (nomark _)))) pa_nil))))) (pss_one ps_never) pss_nil))))))))
      (pss_one (ps_ret pe_bl))))), ?_⟩
    refine ⟨_, rfl, sa, ns, rfl, hS, fun H1 p s1 np hP => ?_⟩
    refine ⟨_, rfl, p, _, rfl, by decide, by decide, hP, fun v0 H2 l0 u0 P2 B2 => ⟨_, _, rfl, rfl, ?_⟩⟩
    obtain ⟨dn, rfl⟩ := Int.eq_ofNat_of_zero_le l0
    have ed : (1 + (dn : Int)) = ((dn + 1 : Nat) : Int) := by omega
    show gName 2 (V.int (1 + (dn : Int))) _ _ _
    rw [ed]
    refine ⟨5, rfl, by decide, by decide, ?_⟩
    refine for_range (lo := 0) (n := 5) (fun i σ H' => Pl H' p ∧ ∃ y3 y4 y5 y6 : Option V, σ = [some (.ref sa), some (.ref p), some (.int ((dn + 1 : Nat) : Int)), y3, y4, y5, y6, none, none]) ⟨P2, _, _, _, _, rfl⟩ (fun i σ H' hi hW => ?_) (fun σ H' hW => ?_)
    · obtain ⟨P3, y3, y4, y5, y6, rfl⟩ := hW
      -- value
      refine ⟨_, rfl, _, rfl, p, dn + 1, 5, rfl, by omega, by decide, by decide, P3, fun H4 r4 ns4 P4 K4 V4 L4 S4 _ => ?_⟩
      refine ⟨fun σ H' => ∃ (r : Addr) (y3 y5 y6 : Option V), σ = [some (.ref sa), some (.ref p), some (.int ((dn + 1 : Nat) : Int)), y3, some (.ref r), y5, y6, none, none] ∧ Pl H' p ∧ Dt p H' 10 1 (.ref r), ?_, ?_⟩
      · refine ⟨_, rfl, p, _, rfl, by decide, by decide, P4, fun v5 H5 l5 u5 P5 B5 => ⟨rfl, _, rfl, ite2 (fun e5 => ?_) (fun e5 => ?_)⟩⟩
        · refine ⟨_, rfl, _, _, rfl, rfl, _, rfl, by omega, by omega, fun D nD => ?_⟩
          refine lc_range (lo := 0) (n := (((dn + 1 : Nat) : Int) + 1).toNat) (Dr p H5 D 4) (dr0 P5 nD) (fun i H6 hi hW => ?_) (fun H6 hW => ?_)
          · refine ⟨rfl, ?_⟩
            unfold tYes
            refine iteT ?_
            obtain ⟨q0, hq0, _⟩ := hW.1
            refine ⟨_, rfl, p, _, rfl, by decide, by decide, hq0.pl, fun n H7 l7 u7 P7 B7 => ⟨_, _, rfl, rfl, ?_⟩⟩
            obtain ⟨acc, h1, h2, h3⟩ := dr_step (n := n - 4) nD P5 hW B7 P7 (by omega)
            exact ⟨acc, h1, small1000 (by omega), h3⟩
          obtain ⟨⟨q6, hq6, _⟩, K6, xs, eD, hlen, hB⟩ := hW
          refine ⟨false, D, xs, rfl, eD, by omega, fun n hn => up_pow (hB n hn) (by decide), fun H7 r s7 R7 => ?_⟩
          refine ⟨r, _, _, _, rfl, hq6.pl.same s7, vc_dt R7 (by rw [prim_len]; omega) fun n hn => ?_⟩
          exact Nat.lt_of_le_of_lt (prim_small (B := 15) (fun m hm => by have := hB m hm; omega) n hn) (by decide)
        · refine ⟨r4, _, _, _, rfl, P5, vc_dt (V4.keep P4 B5.keep) (by omega) fun n hn => ?_⟩
          exact Nat.lt_of_le_of_lt (S4 n hn) (by decide)
      intro σ H5 hW
      obtain ⟨r, y3, y5, y6, rfl, P5, D5⟩ := hW
      -- the bends
      refine ⟨fun σ H' => ∃ (v : V) (y3 y5 y6 : Option V), σ = [some (.ref sa), some (.ref p), some (.int ((dn + 1 : Nat) : Int)), y3, some v, y5, y6, none, none] ∧ Pl H' p ∧ Dt p H' 12 3 v, ?_, ?_⟩
      · refine ⟨_, rfl, p, _, rfl, by decide, by decide, P5, fun vb H6 l6 u6 P6 B6 => ⟨vb, rfl, by omega, by omega, ?_⟩⟩
        refine for_range (lo := 0) (n := vb.toNat) (fun i σ H' => ∃ (v : V) (y5 : Option V), σ = [some (.ref sa), some (.ref p), some (.int ((dn + 1 : Nat) : Int)), y3, some v, y5, y6, none, none] ∧ Pl H' p ∧ Dt p H' (10 + i) (1 + i) v) ⟨_, _, rfl, P6, D5.keep P5 B6.keep⟩ (fun i σ H' hi hP => ?_) (fun σ H' hP => ?_)
        · obtain ⟨v, y5, rfl, P7, D7⟩ := hP
          have hi2 : i = 0 ∨ i = 1 := by omega
          rcases hi2 with rfl | rfl
          · exact ⟨_, rfl, _, rfl, .inl ⟨p, v, 10, rfl, P7, D7, by decide, by decide, fun H8 v8 P8 K8 D8 => ⟨v8, _, rfl, P8, D8⟩⟩⟩
          · exact ⟨_, rfl, _, rfl, .inr ⟨p, v, 11, rfl, P7, D7, by decide, by decide, fun H8 v8 P8 K8 D8 => ⟨v8, _, rfl, P8, D8⟩⟩⟩
        · obtain ⟨v, y5, rfl, P7, D7⟩ := hP
          exact ⟨v, _, _, _, rfl, P7, D7.up (by omega) (by omega)⟩
      intro σ H6 hW
      obtain ⟨v, y3, y5, y6, rfl, P6, D6⟩ := hW
      -- good
      refine ⟨fun σ H' => ∃ (g : Bool) (y3 y5 : Option V), σ = [some (.ref sa), some (.ref p), some (.int ((dn + 1 : Nat) : Int)), y3, some v, y5, some (.bl g), none, none] ∧ Pl H' p ∧ Dt p H' 12 3 v ∧ (g = true ↔ Gd H' v (dn + 2)), ?_, ?_⟩
      · refine ⟨_, rfl, _, _, rfl, rfl, _, rfl, dn + 2, v, p, 12, 3, rfl, D6, by decide, fun H7 b s7 hb => ⟨b, rfl, ?_⟩⟩
        cases b with
        | false =>
          refine iteF ⟨false, _, _, rfl, P6.same s7, D6.same s7, (fun z => nomatch z), fun ⟨a, ns, e, h1, h2, _⟩ => ?_⟩
          have h0 := hb.mpr ?_
          · cases h0
          · subst e
            rcases D6.kinds (K := K) with ⟨a', xs, m, e', ha, hl, _⟩ | ⟨i, e', _⟩ | ⟨i, b, _, _, _, nt, _⟩
            · cases e'
              have e2 := (s7 _ _ ha).symm.trans h1
              injection e2 with e2
              injection e2 with e2
              subst e2
              exact ⟨_, ns, rfl, ha, h2⟩
            · cases e'
            · exfalso
              cases D6 with
              | tup h _ _ => exact nt _ _ rfl h
              | lst h _ _ _ =>
                have h3 := (s7 _ _ h).symm.trans h1
                cases h3
        | true =>
          obtain ⟨a, ns, rfl, hv, hL⟩ := hb.mp rfl
          have hv7 := hv.same s7
          have hl12 : ns.length ≤ 1000 := by
            cases D6 with
            | tup h hl _ =>
              have e2 := h.symm.trans hv
              injection e2 with e2
              injection e2 with e2
              subst e2
              rw [List.length_map] at hl
              omega
            | lst h _ _ _ =>
              have e2 := h.symm.trans hv
              cases e2
          refine iteT ⟨_, rfl, _, rfl, true, a, ns, rfl, hv7, hl12, fun x hx => up_pow (dt_vc D6 hv x hx) (by decide), fun H8 r s8 R8 => ?_⟩
          refine ⟨_, _, .tup (SqT.of (hv7.same s8)) (dp_ints ns), .tup (SqT.of R8) (dp_ints _), shaped_ints ns hl12, shaped_ints _ (by rw [prim_len]; exact hl12), ?_⟩
          refine ⟨_, _, _, rfl, (P6.same s7).same s8, (D6.same s7).same s8, ?_⟩
          rw [PyData.eqv, eqv_ints, decide_eq_true_iff]
          constructor
          · intro e
            exact ⟨a, ns, rfl, hv7.same s8, hL, e⟩
          · rintro ⟨a', ns', e', h1, h2, h3⟩
            cases e'
            rw [vc_eq (hv7.same s8) h1]
            exact h3
      intro σ H7 hW
      obtain ⟨g, y3, y5, rfl, P7, D7, hg⟩ := hW
      -- is_point
      refine ⟨_, rfl, _, rfl, dn + 1, v, p, 12, 3, rfl, by omega, D7, by decide, fun H8 b8 s8 h8 => ⟨_, rfl, g, rfl, ?_⟩⟩
      have fin : ∀ (c : Bool) (Rest : Prop), (b8 = true ↔ c = true) → True := fun _ _ _ => trivial
      cases g with
      | false =>
        have ng : ¬ Gd H7 v (dn + 2) := fun z => by have := hg.mpr z; cases this
        have n8 : ¬ IsPt H7 v (dn + 2) := fun ⟨a, ns, e, h1, h2, ⟨m, h3, h4⟩, h5⟩ => ng ⟨a, ns, e, h1, h2, (prim_self (List.mem_of_getElem? h3) (by omega)).mpr h5⟩
        have n9 : ¬ IsIq H7 v (dn + 2) := fun ⟨a, ns, e, h1, h2, h3, h5⟩ => by
          obtain ⟨x, hx, h0⟩ := List.any_eq_true.mp h3
          exact ng ⟨a, ns, e, h1, h2, (prim_self (List.mem_of_mem_drop hx) (by simpa using h0)).mpr h5⟩
        refine iteF ⟨_, _, rfl, bl_alike ⟨fun z => absurd (h8.mp z) n8, (fun z => nomatch z)⟩, true, rfl, iteF ?_⟩
        refine ⟨_, rfl, _, rfl, dn + 1, v, p, 12, 3, rfl, by omega, D7.same s8, by decide, fun H9 b9 s9 h9 => ⟨_, rfl, false, rfl, iteF ⟨_, _, rfl, bl_alike ⟨fun z => ?_, (fun z => nomatch z)⟩, true, rfl, iteF ?_⟩⟩⟩
        · obtain ⟨a, ns, e, h1, h2⟩ := h9.mp z
          exfalso
          refine n9 ⟨a, ns, e, ?_, h2⟩
          subst e
          cases D7 with
          | tup h _ _ =>
            have e2 := (s8 _ _ h).symm.trans h1
            injection e2 with e2
            injection e2 with e2
            subst e2
            exact h
          | lst h _ _ _ =>
            have e2 := (s8 _ _ h).symm.trans h1
            cases e2
        · exact ⟨(P7.same s8).same s9, _, _, _, _, rfl⟩
      | true =>
        obtain ⟨a, ns, rfl, hv, hL, hp⟩ := hg.mp rfl
        have hv8 := hv.same s8
        have g0 : ns[0]? = some (ns[0]'(by omega)) := List.getElem?_eq_getElem (by omega)
        refine iteT ⟨_, rfl, _, _, _, _, rfl, rfl, SqT.of hv8, atI_nat (get_map g0), _, _, rfl, rfl, _, _, rfl, bl_alike ?_, true, rfl, iteF ?_⟩
        · rw [h8, gd_pt hv hL g0, decide_eq_true_iff]
          exact ⟨fun z => z.2, fun z => ⟨hp, z⟩⟩
        refine ⟨_, rfl, _, rfl, dn + 1, _, p, 12, 3, rfl, by omega, D7.same s8, by decide, fun H9 b9 s9 h9 => ⟨_, rfl, true, rfl, iteT ?_⟩⟩
        have hv9 := hv8.same s9
        refine ⟨_, rfl, 1, rfl, ?_⟩
        unfold tNoPart
        refine sl_h hv9 fun H10 r10 s10 hr10 => ?_
        rw [cut1, ← List.map_drop] at hr10
        refine ⟨r10, rfl, ⟨_, SqT.of hr10⟩, fun D nD => ?_⟩
        refine lc_tup (xs := (ns.drop 1).map V.int) (fun i H' => ∃ H0, Same H10 H0 ∧ H0 D = none ∧ H' = upd H0 D (.lst ((((ns.drop 1).take i).filter fun n => n != 0).map V.int))) ⟨H10, Same.refl _, nD, rfl⟩ (fun i H' _ hP => ?_) (fun i x H' hx hP => ?_) (fun H' hP => ?_)
        · obtain ⟨H0, s0, n0, rfl⟩ := hP
          exact SqT.of ((s0.trans (same_upd n0)) _ _ hr10)
        · obtain ⟨H0, s0, n0, rfl⟩ := hP
          obtain ⟨n, hn, rfl⟩ := map_get hx
          refine ⟨rfl, _, rfl, rfl, _, rfl, ?_⟩
          by_cases h0 : n = 0
          · rw [decide_eq_true (by rw [h0])]
            refine iteF ⟨H0, s0, n0, ?_⟩
            rw [take_get hn, List.filter_append]
            simp [h0]
          · rw [decide_eq_false (fun z => h0 (V.int.inj z))]
            refine iteT ⟨_, rfl, _, upd_same, ?_, H0, s0, n0, ?_⟩
            · rw [List.length_map]
              refine Nat.lt_of_le_of_lt (List.length_filter_le _ _) (Nat.lt_of_le_of_lt (show _ ≤ (ns.drop 1).length by rw [List.length_take]; exact Nat.min_le_right _ _) ?_)
              rw [List.length_drop]
              exact small1000 (by omega)
            · rw [upd_upd, take_get hn, List.filter_append]
              simp [h0]
        · obtain ⟨H0, s0, n0, rfl⟩ := hP
          rw [List.length_map, List.take_length]
          refine ⟨_, _, rfl, .inl (SqL.of upd_same), _, _, rfl, rfl, _, _, rfl, bl_alike ?_, true, rfl, iteF ?_⟩
          · rw [h9, gd_iq hv8 hL, decide_eq_true_iff, List.length_map]
            exact ⟨fun z => by have := z.2; omega, fun z => ⟨hp, by omega⟩⟩
          · exact ⟨(((P7.same s8).same s9).same s10).same (s0.trans (same_upd n0)), _, _, _, _, rfl⟩
    · obtain ⟨P3, y3, y4, y5, y6, rfl⟩ := hW
      exact q _

end
/-! ### what the top has written -/
theorem all_mk {l : PySem.W.OpenLaw} {w : World} {K : PySem.W.Frag} {h : Heap} {mg : Str → Option Value} {fa f__law_same f__law_gcd f__law_spread f__law_draw f__law_pool f_common_divisor f__law_prim f__law_point f__law_bent f_is_integer f__law_is_int f_is_vector f__law_is_vector f_is_point f_is_inequality f_law  : Addr} (X : K.In h) (G : h.Ns mainGlobals mg) (hfa : mg "law" = some (.ref fa))
    {od__law_same an__law_same od__law_gcd an__law_gcd od__law_spread an__law_spread od__law_draw an__law_draw od__law_pool an__law_pool od_common_divisor an_common_divisor od__law_prim an__law_prim od__law_point an__law_point od__law_bent an__law_bent od_is_integer an_is_integer od__law_is_int an__law_is_int od_is_vector an_is_vector od__law_is_vector an__law_is_vector od_is_point an_is_point od_is_inequality an_is_inequality od_law an_law : Option Addr} {sl__law_same sl__law_gcd sl__law_spread sl__law_draw sl__law_pool sl_common_divisor sl__law_prim sl__law_point sl__law_bent sl_is_integer sl__law_is_int sl_is_vector sl__law_is_vector sl_is_point sl_is_inequality sl_law : Array (Option Value)} {oc__law_same kV__law_same dc__law_same pm__law_same cd__law_same ct__law_same oc__law_gcd kV__law_gcd dc__law_gcd pm__law_gcd cd__law_gcd ct__law_gcd oc__law_spread kV__law_spread dc__law_spread pm__law_spread cd__law_spread ct__law_spread oc__law_draw kV__law_draw dc__law_draw pm__law_draw cd__law_draw ct__law_draw oc__law_pool kV__law_pool dc__law_pool pm__law_pool cd__law_pool ct__law_pool oc_common_divisor kV_common_divisor dc_common_divisor pm_common_divisor cd_common_divisor ct_common_divisor oc__law_prim kV__law_prim dc__law_prim pm__law_prim cd__law_prim ct__law_prim oc__law_point kV__law_point dc__law_point pm__law_point cd__law_point ct__law_point oc__law_bent kV__law_bent dc__law_bent pm__law_bent cd__law_bent ct__law_bent oc_is_integer kV_is_integer dc_is_integer pm_is_integer cd_is_integer ct_is_integer oc__law_is_int kV__law_is_int dc__law_is_int pm__law_is_int cd__law_is_int ct__law_is_int oc_is_vector kV_is_vector dc_is_vector pm_is_vector cd_is_vector ct_is_vector oc__law_is_vector kV__law_is_vector dc__law_is_vector pm__law_is_vector cd__law_is_vector ct__law_is_vector oc_is_point kV_is_point dc_is_point pm_is_point cd_is_point ct_is_point oc_is_inequality kV_is_inequality dc_is_inequality pm_is_inequality cd_is_inequality ct_is_inequality oc_law kV_law dc_law pm_law cd_law ct_law : Value}
    (a__law_same : PySem.W.nsIn K mainGlobals "_law_same" = some (some (.ref f__law_same))) (l__law_same : K.lookup f__law_same = some ⟨oc__law_same, od__law_same, .func (PySem.W.fnOf "_law_same" "_law_same" (defArgs s__law_same) (defBody s__law_same) (defScope s__law_same) .none kV__law_same dc__law_same pm__law_same an__law_same cd__law_same ct__law_same), sl__law_same⟩) (c__law_same : PySem.W.codeIn K cd__law_same "_law_same" = true) (k__law_same : PySem.W.keepIn K (.ref f__law_same) = true)
    (a__law_gcd : PySem.W.nsIn K mainGlobals "_law_gcd" = some (some (.ref f__law_gcd))) (l__law_gcd : K.lookup f__law_gcd = some ⟨oc__law_gcd, od__law_gcd, .func (PySem.W.fnOf "_law_gcd" "_law_gcd" (defArgs s__law_gcd) (defBody s__law_gcd) (defScope s__law_gcd) .none kV__law_gcd dc__law_gcd pm__law_gcd an__law_gcd cd__law_gcd ct__law_gcd), sl__law_gcd⟩) (c__law_gcd : PySem.W.codeIn K cd__law_gcd "_law_gcd" = true) (k__law_gcd : PySem.W.keepIn K (.ref f__law_gcd) = true)
    (a__law_spread : PySem.W.nsIn K mainGlobals "_law_spread" = some (some (.ref f__law_spread))) (l__law_spread : K.lookup f__law_spread = some ⟨oc__law_spread, od__law_spread, .func (PySem.W.fnOf "_law_spread" "_law_spread" (defArgs s__law_spread) (defBody s__law_spread) (defScope s__law_spread) .none kV__law_spread dc__law_spread pm__law_spread an__law_spread cd__law_spread ct__law_spread), sl__law_spread⟩) (c__law_spread : PySem.W.codeIn K cd__law_spread "_law_spread" = true) (k__law_spread : PySem.W.keepIn K (.ref f__law_spread) = true)
    (a__law_draw : PySem.W.nsIn K mainGlobals "_law_draw" = some (some (.ref f__law_draw))) (l__law_draw : K.lookup f__law_draw = some ⟨oc__law_draw, od__law_draw, .func (PySem.W.fnOf "_law_draw" "_law_draw" (defArgs s__law_draw) (defBody s__law_draw) (defScope s__law_draw) .none kV__law_draw dc__law_draw pm__law_draw an__law_draw cd__law_draw ct__law_draw), sl__law_draw⟩) (c__law_draw : PySem.W.codeIn K cd__law_draw "_law_draw" = true) (k__law_draw : PySem.W.keepIn K (.ref f__law_draw) = true)
    (a__law_pool : PySem.W.nsIn K mainGlobals "_law_pool" = some (some (.ref f__law_pool))) (l__law_pool : K.lookup f__law_pool = some ⟨oc__law_pool, od__law_pool, .func (PySem.W.fnOf "_law_pool" "_law_pool" (defArgs s__law_pool) (defBody s__law_pool) (defScope s__law_pool) .none kV__law_pool dc__law_pool pm__law_pool an__law_pool cd__law_pool ct__law_pool), sl__law_pool⟩) (c__law_pool : PySem.W.codeIn K cd__law_pool "_law_pool" = true) (k__law_pool : PySem.W.keepIn K (.ref f__law_pool) = true)
    (a_common_divisor : PySem.W.nsIn K mainGlobals "common_divisor" = some (some (.ref f_common_divisor))) (l_common_divisor : K.lookup f_common_divisor = some ⟨oc_common_divisor, od_common_divisor, .func (PySem.W.fnOf "common_divisor" "common_divisor" (defArgs s_common_divisor) (defBody s_common_divisor) (defScope s_common_divisor) .none kV_common_divisor dc_common_divisor pm_common_divisor an_common_divisor cd_common_divisor ct_common_divisor), sl_common_divisor⟩) (c_common_divisor : PySem.W.codeIn K cd_common_divisor "common_divisor" = true) (k_common_divisor : PySem.W.keepIn K (.ref f_common_divisor) = true)
    (a__law_prim : PySem.W.nsIn K mainGlobals "_law_prim" = some (some (.ref f__law_prim))) (l__law_prim : K.lookup f__law_prim = some ⟨oc__law_prim, od__law_prim, .func (PySem.W.fnOf "_law_prim" "_law_prim" (defArgs s__law_prim) (defBody s__law_prim) (defScope s__law_prim) .none kV__law_prim dc__law_prim pm__law_prim an__law_prim cd__law_prim ct__law_prim), sl__law_prim⟩) (c__law_prim : PySem.W.codeIn K cd__law_prim "_law_prim" = true) (k__law_prim : PySem.W.keepIn K (.ref f__law_prim) = true)
    (a__law_point : PySem.W.nsIn K mainGlobals "_law_point" = some (some (.ref f__law_point))) (l__law_point : K.lookup f__law_point = some ⟨oc__law_point, od__law_point, .func (PySem.W.fnOf "_law_point" "_law_point" (defArgs s__law_point) (defBody s__law_point) (defScope s__law_point) .none kV__law_point dc__law_point pm__law_point an__law_point cd__law_point ct__law_point), sl__law_point⟩) (c__law_point : PySem.W.codeIn K cd__law_point "_law_point" = true) (k__law_point : PySem.W.keepIn K (.ref f__law_point) = true)
    (a__law_bent : PySem.W.nsIn K mainGlobals "_law_bent" = some (some (.ref f__law_bent))) (l__law_bent : K.lookup f__law_bent = some ⟨oc__law_bent, od__law_bent, .func (PySem.W.fnOf "_law_bent" "_law_bent" (defArgs s__law_bent) (defBody s__law_bent) (defScope s__law_bent) .none kV__law_bent dc__law_bent pm__law_bent an__law_bent cd__law_bent ct__law_bent), sl__law_bent⟩) (c__law_bent : PySem.W.codeIn K cd__law_bent "_law_bent" = true) (k__law_bent : PySem.W.keepIn K (.ref f__law_bent) = true)
    (a_is_integer : PySem.W.nsIn K mainGlobals "is_integer" = some (some (.ref f_is_integer))) (l_is_integer : K.lookup f_is_integer = some ⟨oc_is_integer, od_is_integer, .func (PySem.W.fnOf "is_integer" "is_integer" (defArgs s_is_integer) (defBody s_is_integer) (defScope s_is_integer) .none kV_is_integer dc_is_integer pm_is_integer an_is_integer cd_is_integer ct_is_integer), sl_is_integer⟩) (c_is_integer : PySem.W.codeIn K cd_is_integer "is_integer" = true) (k_is_integer : PySem.W.keepIn K (.ref f_is_integer) = true)
    (a__law_is_int : PySem.W.nsIn K mainGlobals "_law_is_int" = some (some (.ref f__law_is_int))) (l__law_is_int : K.lookup f__law_is_int = some ⟨oc__law_is_int, od__law_is_int, .func (PySem.W.fnOf "_law_is_int" "_law_is_int" (defArgs s__law_is_int) (defBody s__law_is_int) (defScope s__law_is_int) .none kV__law_is_int dc__law_is_int pm__law_is_int an__law_is_int cd__law_is_int ct__law_is_int), sl__law_is_int⟩) (c__law_is_int : PySem.W.codeIn K cd__law_is_int "_law_is_int" = true) (k__law_is_int : PySem.W.keepIn K (.ref f__law_is_int) = true)
    (a_is_vector : PySem.W.nsIn K mainGlobals "is_vector" = some (some (.ref f_is_vector))) (l_is_vector : K.lookup f_is_vector = some ⟨oc_is_vector, od_is_vector, .func (PySem.W.fnOf "is_vector" "is_vector" (defArgs s_is_vector) (defBody s_is_vector) (defScope s_is_vector) .none kV_is_vector dc_is_vector pm_is_vector an_is_vector cd_is_vector ct_is_vector), sl_is_vector⟩) (c_is_vector : PySem.W.codeIn K cd_is_vector "is_vector" = true) (k_is_vector : PySem.W.keepIn K (.ref f_is_vector) = true)
    (a__law_is_vector : PySem.W.nsIn K mainGlobals "_law_is_vector" = some (some (.ref f__law_is_vector))) (l__law_is_vector : K.lookup f__law_is_vector = some ⟨oc__law_is_vector, od__law_is_vector, .func (PySem.W.fnOf "_law_is_vector" "_law_is_vector" (defArgs s__law_is_vector) (defBody s__law_is_vector) (defScope s__law_is_vector) .none kV__law_is_vector dc__law_is_vector pm__law_is_vector an__law_is_vector cd__law_is_vector ct__law_is_vector), sl__law_is_vector⟩) (c__law_is_vector : PySem.W.codeIn K cd__law_is_vector "_law_is_vector" = true) (k__law_is_vector : PySem.W.keepIn K (.ref f__law_is_vector) = true)
    (a_is_point : PySem.W.nsIn K mainGlobals "is_point" = some (some (.ref f_is_point))) (l_is_point : K.lookup f_is_point = some ⟨oc_is_point, od_is_point, .func (PySem.W.fnOf "is_point" "is_point" (defArgs s_is_point) (defBody s_is_point) (defScope s_is_point) .none kV_is_point dc_is_point pm_is_point an_is_point cd_is_point ct_is_point), sl_is_point⟩) (c_is_point : PySem.W.codeIn K cd_is_point "is_point" = true) (k_is_point : PySem.W.keepIn K (.ref f_is_point) = true)
    (a_is_inequality : PySem.W.nsIn K mainGlobals "is_inequality" = some (some (.ref f_is_inequality))) (l_is_inequality : K.lookup f_is_inequality = some ⟨oc_is_inequality, od_is_inequality, .func (PySem.W.fnOf "is_inequality" "is_inequality" (defArgs s_is_inequality) (defBody s_is_inequality) (defScope s_is_inequality) .none kV_is_inequality dc_is_inequality pm_is_inequality an_is_inequality cd_is_inequality ct_is_inequality), sl_is_inequality⟩) (c_is_inequality : PySem.W.codeIn K cd_is_inequality "is_inequality" = true) (k_is_inequality : PySem.W.keepIn K (.ref f_is_inequality) = true)
    (a_law : PySem.W.nsIn K mainGlobals "law" = some (some (.ref f_law))) (l_law : K.lookup f_law = some ⟨oc_law, od_law, .func (PySem.W.fnOf "law" "law" (defArgs s_law) (defBody s_law) (defScope s_law) .none kV_law dc_law pm_law an_law cd_law ct_law), sl_law⟩) (c_law : PySem.W.codeIn K cd_law "law" = true) (k_law : PySem.W.keepIn K (.ref f_law) = true)
    (z_len : PySem.W.nsIn K mainGlobals "len" = some none) (z_range : PySem.W.nsIn K mainGlobals "range" = some none) (z_int : PySem.W.nsIn K mainGlobals "int" = some none) (z_list : PySem.W.nsIn K mainGlobals "list" = some none) (z_tuple : PySem.W.nsIn K mainGlobals "tuple" = some none) (z_bool : PySem.W.nsIn K mainGlobals "bool" = some none) (z_isinstance : PySem.W.nsIn K mainGlobals "isinstance" = some none) (z_abs : PySem.W.nsIn K mainGlobals "abs" = some none) (z_sum : PySem.W.nsIn K mainGlobals "sum" = some none) (z_zip : PySem.W.nsIn K mainGlobals "zip" = some none) (z_str : PySem.W.nsIn K mainGlobals "str" = some none) (z_any : PySem.W.nsIn K mainGlobals "any" = some none) (z_all : PySem.W.nsIn K mainGlobals "all" = some none)
    (z_gcd : PySem.W.nsIn K mainGlobals "gcd" = some (some (.builtin "math.gcd")))
    : ∃ fd : FuncData, (∀ (s : Shared) (v : Value), BindsTo s fd ⟨[v], []⟩ [("script", v)]) ∧ ∀ base : Heap, K.In base → base.Ns mainGlobals mg → FnOk l.prog w K mg base CX0 7 fa fd ["script"] (spLaw K) := by
  have e := hfa.symm.trans (PySem.W.mg_of X G a_law)
  cases e
  have F__law_same := fun_mk (st := s__law_same) l__law_same c__law_same k__law_same
  have b__law_same := F__law_same.binds (ps := ["actual", "due"]) fun _ _ _ _ _ _ us hl => match us, hl with | [_, _], _ => rfl
  have F__law_gcd := fun_mk (st := s__law_gcd) l__law_gcd c__law_gcd k__law_gcd
  have b__law_gcd := F__law_gcd.binds (ps := ["a", "b"]) fun _ _ _ _ _ _ us hl => match us, hl with | [_, _], _ => rfl
  have F__law_spread := fun_mk (st := s__law_spread) l__law_spread c__law_spread k__law_spread
  have b__law_spread := F__law_spread.binds (ps := ["cell"]) fun _ _ _ _ _ _ us hl => match us, hl with | [_], _ => rfl
  have F__law_draw := fun_mk (st := s__law_draw) l__law_draw c__law_draw k__law_draw
  have b__law_draw := F__law_draw.binds (ps := ["pool", "many"]) fun _ _ _ _ _ _ us hl => match us, hl with | [_, _], _ => rfl
  have F__law_pool := fun_mk (st := s__law_pool) l__law_pool c__law_pool k__law_pool
  have b__law_pool := F__law_pool.binds (ps := ["script"]) fun _ _ _ _ _ _ us hl => match us, hl with | [_], _ => rfl
  have F_common_divisor := fun_mk (st := s_common_divisor) l_common_divisor c_common_divisor k_common_divisor
  have b_common_divisor := F_common_divisor.binds (ps := ["v"]) fun _ _ _ _ _ _ us hl => match us, hl with | [_], _ => rfl
  have F__law_prim := fun_mk (st := s__law_prim) l__law_prim c__law_prim k__law_prim
  have b__law_prim := F__law_prim.binds (ps := ["v"]) fun _ _ _ _ _ _ us hl => match us, hl with | [_], _ => rfl
  have F__law_point := fun_mk (st := s__law_point) l__law_point c__law_point k__law_point
  have b__law_point := F__law_point.binds (ps := ["pool", "d", "most"]) fun _ _ _ _ _ _ us hl => match us, hl with | [_, _, _], _ => rfl
  have F__law_bent := fun_mk (st := s__law_bent) l__law_bent c__law_bent k__law_bent
  have b__law_bent := F__law_bent.binds (ps := ["pool", "value"]) fun _ _ _ _ _ _ us hl => match us, hl with | [_, _], _ => rfl
  have F_is_integer := fun_mk (st := s_is_integer) l_is_integer c_is_integer k_is_integer
  have b_is_integer := F_is_integer.binds (ps := ["value"]) fun _ _ _ _ _ _ us hl => match us, hl with | [_], _ => rfl
  have F__law_is_int := fun_mk (st := s__law_is_int) l__law_is_int c__law_is_int k__law_is_int
  have b__law_is_int := F__law_is_int.binds (ps := ["a"]) fun _ _ _ _ _ _ us hl => match us, hl with | [_], _ => rfl
  have F_is_vector := fun_mk (st := s_is_vector) l_is_vector c_is_vector k_is_vector
  have b_is_vector := F_is_vector.binds (ps := ["length", "value"]) fun _ _ _ _ _ _ us hl => match us, hl with | [_, _], _ => rfl
  have F__law_is_vector := fun_mk (st := s__law_is_vector) l__law_is_vector c__law_is_vector k__law_is_vector
  have b__law_is_vector := F__law_is_vector.binds (ps := ["size", "value"]) fun _ _ _ _ _ _ us hl => match us, hl with | [_, _], _ => rfl
  have F_is_point := fun_mk (st := s_is_point) l_is_point c_is_point k_is_point
  have b_is_point := F_is_point.binds (ps := ["d", "value"]) fun _ _ _ _ _ _ us hl => match us, hl with | [_, _], _ => rfl
  have F_is_inequality := fun_mk (st := s_is_inequality) l_is_inequality c_is_inequality k_is_inequality
  have b_is_inequality := F_is_inequality.binds (ps := ["d", "value"]) fun _ _ _ _ _ _ us hl => match us, hl with | [_, _], _ => rfl
  have F_law := fun_mk (st := s_law) l_law c_law k_law
  have Z : Glb mg := ⟨PySem.W.mg_none_of X G z_len, PySem.W.mg_none_of X G z_range, PySem.W.mg_none_of X G z_int, PySem.W.mg_none_of X G z_list, PySem.W.mg_none_of X G z_tuple, PySem.W.mg_none_of X G z_bool, PySem.W.mg_none_of X G z_isinstance, PySem.W.mg_none_of X G z_abs, PySem.W.mg_none_of X G z_sum, PySem.W.mg_none_of X G z_zip, PySem.W.mg_none_of X G z_str, PySem.W.mg_none_of X G z_any, PySem.W.mg_none_of X G z_all, PySem.W.mg_of X G z_gcd⟩
  refine ⟨PySem.W.fnOf "law" "law" (defArgs s_law) (defBody s_law) (defScope s_law) .none kV_law dc_law pm_law an_law cd_law ct_law, fun s v => .of_eq rfl, fun base _ _ => ?_⟩
  have S__law_pool_6 : FnOk l.prog w K mg base CX0 6 f__law_pool _ ["script"] (spPool K) := ok_pool (k := 5) F__law_pool Z 
  have C__law_pool_6 : Call l.prog w K mg base 6 "_law_pool" ["script"] (spPool K) := ⟨f__law_pool, _, S__law_pool_6, PySem.W.mg_of X G a__law_pool, F__law_pool.kp, b__law_pool⟩
  have S__law_spread_5 : FnOk l.prog w K mg base CX0 5 f__law_spread _ ["cell"] spSpread := ok_spread (k := 4) F__law_spread Z 
  have C__law_spread_5 : Call l.prog w K mg base 5 "_law_spread" ["cell"] spSpread := ⟨f__law_spread, _, S__law_spread_5, PySem.W.mg_of X G a__law_spread, F__law_spread.kp, b__law_spread⟩
  have S__law_draw_6 : FnOk l.prog w K mg base CX0 6 f__law_draw _ ["pool", "many"] spDraw := ok_draw (k := 5) F__law_draw Z  C__law_spread_5
  have C__law_draw_6 : Call l.prog w K mg base 6 "_law_draw" ["pool", "many"] spDraw := ⟨f__law_draw, _, S__law_draw_6, PySem.W.mg_of X G a__law_draw, F__law_draw.kp, b__law_draw⟩
  have S_same_0_6 := ok_same (P := l.prog) (w := w) (base := base) (k := 5) (n := 0) F__law_same Z (fun m e => absurd e (by omega)) (PySem.W.mg_of X G a__law_same) b__law_same
  have DS_same_0_6 : Call l.prog w K mg base 6 "_law_same" ["actual", "due"] (spSame 0) := ⟨f__law_same, _, S_same_0_6, PySem.W.mg_of X G a__law_same, F__law_same.kp, b__law_same⟩
  have S__law_spread_4 : FnOk l.prog w K mg base CX0 4 f__law_spread _ ["cell"] spSpread := ok_spread (k := 3) F__law_spread Z 
  have C__law_spread_4 : Call l.prog w K mg base 4 "_law_spread" ["cell"] spSpread := ⟨f__law_spread, _, S__law_spread_4, PySem.W.mg_of X G a__law_spread, F__law_spread.kp, b__law_spread⟩
  have S__law_draw_5 : FnOk l.prog w K mg base CX0 5 f__law_draw _ ["pool", "many"] spDraw := ok_draw (k := 4) F__law_draw Z  C__law_spread_4
  have C__law_draw_5 : Call l.prog w K mg base 5 "_law_draw" ["pool", "many"] spDraw := ⟨f__law_draw, _, S__law_draw_5, PySem.W.mg_of X G a__law_draw, F__law_draw.kp, b__law_draw⟩
  have S__law_gcd_4 : FnOk l.prog w K mg base CX0 4 f__law_gcd _ ["a", "b"] spGcd := ok_gcd (k := 3) F__law_gcd Z 
  have C__law_gcd_4 : Call l.prog w K mg base 4 "_law_gcd" ["a", "b"] spGcd := ⟨f__law_gcd, _, S__law_gcd_4, PySem.W.mg_of X G a__law_gcd, F__law_gcd.kp, b__law_gcd⟩
  have S__law_prim_5 : FnOk l.prog w K mg base CX0 5 f__law_prim _ ["v"] spPrimK := ok_lprimK (k := 4) F__law_prim Z  C__law_gcd_4
  have C__law_prim_5 : Call l.prog w K mg base 5 "_law_prim" ["v"] spPrimK := ⟨f__law_prim, _, S__law_prim_5, PySem.W.mg_of X G a__law_prim, F__law_prim.kp, b__law_prim⟩
  have S__law_point_6 : FnOk l.prog w K mg base CX0 6 f__law_point _ ["pool", "d", "most"] spPoint := ok_point (k := 5) F__law_point Z  C__law_draw_5 C__law_prim_5
  have C__law_point_6 : Call l.prog w K mg base 6 "_law_point" ["pool", "d", "most"] spPoint := ⟨f__law_point, _, S__law_point_6, PySem.W.mg_of X G a__law_point, F__law_point.kp, b__law_point⟩
  have S__law_gcd_5 : FnOk l.prog w K mg base CX0 5 f__law_gcd _ ["a", "b"] spGcd := ok_gcd (k := 4) F__law_gcd Z 
  have C__law_gcd_5 : Call l.prog w K mg base 5 "_law_gcd" ["a", "b"] spGcd := ⟨f__law_gcd, _, S__law_gcd_5, PySem.W.mg_of X G a__law_gcd, F__law_gcd.kp, b__law_gcd⟩
  have S__law_prim_6 : FnOk l.prog w K mg base CX0 6 f__law_prim _ ["v"] spPrimK := ok_lprimK (k := 5) F__law_prim Z  C__law_gcd_5
  have C__law_prim_6 : Call l.prog w K mg base 6 "_law_prim" ["v"] spPrimK := ⟨f__law_prim, _, S__law_prim_6, PySem.W.mg_of X G a__law_prim, F__law_prim.kp, b__law_prim⟩
  have S__law_spread_3 : FnOk l.prog w K mg base CX0 3 f__law_spread _ ["cell"] spSpread := ok_spread (k := 2) F__law_spread Z 
  have C__law_spread_3 : Call l.prog w K mg base 3 "_law_spread" ["cell"] spSpread := ⟨f__law_spread, _, S__law_spread_3, PySem.W.mg_of X G a__law_spread, F__law_spread.kp, b__law_spread⟩
  have S__law_draw_4 : FnOk l.prog w K mg base CX0 4 f__law_draw _ ["pool", "many"] spDraw := ok_draw (k := 3) F__law_draw Z  C__law_spread_3
  have C__law_draw_4 : Call l.prog w K mg base 4 "_law_draw" ["pool", "many"] spDraw := ⟨f__law_draw, _, S__law_draw_4, PySem.W.mg_of X G a__law_draw, F__law_draw.kp, b__law_draw⟩
  have S__law_spread_2 : FnOk l.prog w K mg base CX0 2 f__law_spread _ ["cell"] spSpread := ok_spread (k := 1) F__law_spread Z 
  have C__law_spread_2 : Call l.prog w K mg base 2 "_law_spread" ["cell"] spSpread := ⟨f__law_spread, _, S__law_spread_2, PySem.W.mg_of X G a__law_spread, F__law_spread.kp, b__law_spread⟩
  have S__law_draw_3 : FnOk l.prog w K mg base CX0 3 f__law_draw _ ["pool", "many"] spDraw := ok_draw (k := 2) F__law_draw Z  C__law_spread_2
  have C__law_draw_3 : Call l.prog w K mg base 3 "_law_draw" ["pool", "many"] spDraw := ⟨f__law_draw, _, S__law_draw_3, PySem.W.mg_of X G a__law_draw, F__law_draw.kp, b__law_draw⟩
  have S__law_bent_v_0_4 : FnOk l.prog w K mg base CX0 4 f__law_bent _ ["pool", "value"] (spBent 0) := ok_bentN (k := 3) (n := 0) F__law_bent Z C__law_draw_3 (fun m e => absurd e (by omega)) (PySem.W.mg_of X G a__law_bent) b__law_bent
  have C__law_bent_v_0_4 : Call l.prog w K mg base 4 "_law_bent" ["pool", "value"] (spBent 0) := ⟨f__law_bent, _, S__law_bent_v_0_4, PySem.W.mg_of X G a__law_bent, F__law_bent.kp, b__law_bent⟩
  have S__law_bent_v_1_5 : FnOk l.prog w K mg base CX0 5 f__law_bent _ ["pool", "value"] (spBent 1) := ok_bentN (k := 4) (n := 1) F__law_bent Z C__law_draw_4 (fun m e => by cases e; exact S__law_bent_v_0_4) (PySem.W.mg_of X G a__law_bent) b__law_bent
  have C__law_bent_v_1_5 : Call l.prog w K mg base 5 "_law_bent" ["pool", "value"] (spBent 1) := ⟨f__law_bent, _, S__law_bent_v_1_5, PySem.W.mg_of X G a__law_bent, F__law_bent.kp, b__law_bent⟩
  have S__law_spread_1 : FnOk l.prog w K mg base CX0 1 f__law_spread _ ["cell"] spSpread := ok_spread (k := 0) F__law_spread Z 
  have C__law_spread_1 : Call l.prog w K mg base 1 "_law_spread" ["cell"] spSpread := ⟨f__law_spread, _, S__law_spread_1, PySem.W.mg_of X G a__law_spread, F__law_spread.kp, b__law_spread⟩
  have S__law_draw_2 : FnOk l.prog w K mg base CX0 2 f__law_draw _ ["pool", "many"] spDraw := ok_draw (k := 1) F__law_draw Z  C__law_spread_1
  have C__law_draw_2 : Call l.prog w K mg base 2 "_law_draw" ["pool", "many"] spDraw := ⟨f__law_draw, _, S__law_draw_2, PySem.W.mg_of X G a__law_draw, F__law_draw.kp, b__law_draw⟩
  have S__law_bent_v_0_3 : FnOk l.prog w K mg base CX0 3 f__law_bent _ ["pool", "value"] (spBent 0) := ok_bentN (k := 2) (n := 0) F__law_bent Z C__law_draw_2 (fun m e => absurd e (by omega)) (PySem.W.mg_of X G a__law_bent) b__law_bent
  have C__law_bent_v_0_3 : Call l.prog w K mg base 3 "_law_bent" ["pool", "value"] (spBent 0) := ⟨f__law_bent, _, S__law_bent_v_0_3, PySem.W.mg_of X G a__law_bent, F__law_bent.kp, b__law_bent⟩
  have S__law_bent_v_1_4 : FnOk l.prog w K mg base CX0 4 f__law_bent _ ["pool", "value"] (spBent 1) := ok_bentN (k := 3) (n := 1) F__law_bent Z C__law_draw_3 (fun m e => by cases e; exact S__law_bent_v_0_3) (PySem.W.mg_of X G a__law_bent) b__law_bent
  have C__law_bent_v_1_4 : Call l.prog w K mg base 4 "_law_bent" ["pool", "value"] (spBent 1) := ⟨f__law_bent, _, S__law_bent_v_1_4, PySem.W.mg_of X G a__law_bent, F__law_bent.kp, b__law_bent⟩
  have S__law_bent_v_2_5 : FnOk l.prog w K mg base CX0 5 f__law_bent _ ["pool", "value"] (spBent 2) := ok_bentN (k := 4) (n := 2) F__law_bent Z C__law_draw_4 (fun m e => by cases e; exact S__law_bent_v_1_4) (PySem.W.mg_of X G a__law_bent) b__law_bent
  have C__law_bent_v_2_5 : Call l.prog w K mg base 5 "_law_bent" ["pool", "value"] (spBent 2) := ⟨f__law_bent, _, S__law_bent_v_2_5, PySem.W.mg_of X G a__law_bent, F__law_bent.kp, b__law_bent⟩
  have S__law_bent_6 : FnOk l.prog w K mg base CX0 6 f__law_bent _ ["pool", "value"] spBents := fn_or (S__law_bent_v_1_5.mono (by decide)) (S__law_bent_v_2_5.mono (by decide))
  have C__law_bent_6 : Call l.prog w K mg base 6 "_law_bent" ["pool", "value"] spBents := ⟨f__law_bent, _, S__law_bent_6, PySem.W.mg_of X G a__law_bent, F__law_bent.kp, b__law_bent⟩
  have S__law_is_int_5 : FnOk l.prog w K mg base CX0 5 f__law_is_int _ ["a"] (spIsI K "a") := ok_lint (k := 4) F__law_is_int Z 
  have C__law_is_int_5 : Call l.prog w K mg base 5 "_law_is_int" ["a"] (spIsI K "a") := ⟨f__law_is_int, _, S__law_is_int_5, PySem.W.mg_of X G a__law_is_int, F__law_is_int.kp, b__law_is_int⟩
  have S__law_is_vector_6 : FnOk l.prog w K mg base CX0 6 f__law_is_vector _ ["size", "value"] (spIsVec "size" "value") := ok_lvec (k := 5) F__law_is_vector Z  C__law_is_int_5
  have C__law_is_vector_6 : Call l.prog w K mg base 6 "_law_is_vector" ["size", "value"] (spIsVec "size" "value") := ⟨f__law_is_vector, _, S__law_is_vector_6, PySem.W.mg_of X G a__law_is_vector, F__law_is_vector.kp, b__law_is_vector⟩
  have S_is_integer_4 : FnOk l.prog w K mg base CX0 4 f_is_integer _ ["value"] (spIsI K "value") := ok_pint (k := 3) F_is_integer Z 
  have C_is_integer_4 : Call l.prog w K mg base 4 "is_integer" ["value"] (spIsI K "value") := ⟨f_is_integer, _, S_is_integer_4, PySem.W.mg_of X G a_is_integer, F_is_integer.kp, b_is_integer⟩
  have S_is_vector_5 : FnOk l.prog w K mg base CX0 5 f_is_vector _ ["length", "value"] (spIsVec "length" "value") := ok_pvec (k := 4) F_is_vector Z  C_is_integer_4
  have C_is_vector_5 : Call l.prog w K mg base 5 "is_vector" ["length", "value"] (spIsVec "length" "value") := ⟨f_is_vector, _, S_is_vector_5, PySem.W.mg_of X G a_is_vector, F_is_vector.kp, b_is_vector⟩
  have S_common_divisor_5 : FnOk l.prog w K mg base CX0 5 f_common_divisor _ ["v"] spCd := ok_cd (k := 4) F_common_divisor Z 
  have C_common_divisor_5 : Call l.prog w K mg base 5 "common_divisor" ["v"] spCd := ⟨f_common_divisor, _, S_common_divisor_5, PySem.W.mg_of X G a_common_divisor, F_common_divisor.kp, b_common_divisor⟩
  have S_is_point_6 : FnOk l.prog w K mg base CX0 6 f_is_point _ ["d", "value"] (spIs IsPt) := ok_pt (k := 5) F_is_point Z  C_is_vector_5 C_common_divisor_5
  have C_is_point_6 : Call l.prog w K mg base 6 "is_point" ["d", "value"] (spIs IsPt) := ⟨f_is_point, _, S_is_point_6, PySem.W.mg_of X G a_is_point, F_is_point.kp, b_is_point⟩
  have S_is_inequality_6 : FnOk l.prog w K mg base CX0 6 f_is_inequality _ ["d", "value"] (spIs IsIq) := ok_iq (k := 5) F_is_inequality Z  C_is_vector_5 C_common_divisor_5
  have C_is_inequality_6 : Call l.prog w K mg base 6 "is_inequality" ["d", "value"] (spIs IsIq) := ⟨f_is_inequality, _, S_is_inequality_6, PySem.W.mg_of X G a_is_inequality, F_is_inequality.kp, b_is_inequality⟩
  exact ok_law (P := l.prog) (w := w) (base := base) (k := 6) F_law Z  C__law_pool_6 C__law_draw_6 DS_same_0_6 C__law_point_6 C__law_prim_6 C__law_bent_6 C__law_is_vector_6 C_is_point_6 C_is_inequality_6
end HwP
open PySem PySem.W PyProof.Rows
set_option maxHeartbeats 0 in
theorem PySem.Challenge.cw_hullwright_k09_points_and_inequalities_t_holds : PySem.Challenge.rw_hullwright_k09_points_and_inequalities_t.Holds := by
  w_on; o_law; k_head; (case hw => w_witness2)
  k_fill
  refine L2.walk_of (l := PySem.Challenge.rw_hullwright_k09_points_and_inequalities_t) (n := 63) (k := 7) (x := "script") (CX := fun _ => L2.CX0) (sp := fun w => HwP.spLaw _) rfl (by decide) rfl ⟨rfl, by decide, by decide⟩ (fun w h Y => PySem.W.kIn_of Y) ?F (fun _ _ a ns hl _ hS => ⟨a, ns, rfl, hS, fun _ => rfl⟩) (fun _ _ _ _ _ h => h)
  case F =>
    intro w mg fa h KX G hmg
    refine' HwP.all_mk KX G hmg (a__law_same := ?a__law_same) (l__law_same := ?l__law_same) (c__law_same := ?c__law_same) (k__law_same := ?k__law_same) (a__law_gcd := ?a__law_gcd) (l__law_gcd := ?l__law_gcd) (c__law_gcd := ?c__law_gcd) (k__law_gcd := ?k__law_gcd) (a__law_spread := ?a__law_spread) (l__law_spread := ?l__law_spread) (c__law_spread := ?c__law_spread) (k__law_spread := ?k__law_spread) (a__law_draw := ?a__law_draw) (l__law_draw := ?l__law_draw) (c__law_draw := ?c__law_draw) (k__law_draw := ?k__law_draw) (a__law_pool := ?a__law_pool) (l__law_pool := ?l__law_pool) (c__law_pool := ?c__law_pool) (k__law_pool := ?k__law_pool) (a_common_divisor := ?a_common_divisor) (l_common_divisor := ?l_common_divisor) (c_common_divisor := ?c_common_divisor) (k_common_divisor := ?k_common_divisor) (a__law_prim := ?a__law_prim) (l__law_prim := ?l__law_prim) (c__law_prim := ?c__law_prim) (k__law_prim := ?k__law_prim) (a__law_point := ?a__law_point) (l__law_point := ?l__law_point) (c__law_point := ?c__law_point) (k__law_point := ?k__law_point) (a__law_bent := ?a__law_bent) (l__law_bent := ?l__law_bent) (c__law_bent := ?c__law_bent) (k__law_bent := ?k__law_bent) (a_is_integer := ?a_is_integer) (l_is_integer := ?l_is_integer) (c_is_integer := ?c_is_integer) (k_is_integer := ?k_is_integer) (a__law_is_int := ?a__law_is_int) (l__law_is_int := ?l__law_is_int) (c__law_is_int := ?c__law_is_int) (k__law_is_int := ?k__law_is_int) (a_is_vector := ?a_is_vector) (l_is_vector := ?l_is_vector) (c_is_vector := ?c_is_vector) (k_is_vector := ?k_is_vector) (a__law_is_vector := ?a__law_is_vector) (l__law_is_vector := ?l__law_is_vector) (c__law_is_vector := ?c__law_is_vector) (k__law_is_vector := ?k__law_is_vector) (a_is_point := ?a_is_point) (l_is_point := ?l_is_point) (c_is_point := ?c_is_point) (k_is_point := ?k_is_point) (a_is_inequality := ?a_is_inequality) (l_is_inequality := ?l_is_inequality) (c_is_inequality := ?c_is_inequality) (k_is_inequality := ?k_is_inequality) (a_law := ?a_law) (l_law := ?l_law) (c_law := ?c_law) (k_law := ?k_law) (z_len := ?z_len) (z_range := ?z_range) (z_int := ?z_int) (z_list := ?z_list) (z_tuple := ?z_tuple) (z_bool := ?z_bool) (z_isinstance := ?z_isinstance) (z_abs := ?z_abs) (z_sum := ?z_sum) (z_zip := ?z_zip) (z_str := ?z_str) (z_any := ?z_any) (z_all := ?z_all) (z_gcd := ?z_gcd)
    (case a__law_same => k_is)
    (case l__law_same => k_is)
    (case c__law_same => k_is)
    (case k__law_same => k_is)
    (case a__law_gcd => k_is)
    (case l__law_gcd => k_is)
    (case c__law_gcd => k_is)
    (case k__law_gcd => k_is)
    (case a__law_spread => k_is)
    (case l__law_spread => k_is)
    (case c__law_spread => k_is)
    (case k__law_spread => k_is)
    (case a__law_draw => k_is)
    (case l__law_draw => k_is)
    (case c__law_draw => k_is)
    (case k__law_draw => k_is)
    (case a__law_pool => k_is)
    (case l__law_pool => k_is)
    (case c__law_pool => k_is)
    (case k__law_pool => k_is)
    (case a_common_divisor => k_is)
    (case l_common_divisor => k_is)
    (case c_common_divisor => k_is)
    (case k_common_divisor => k_is)
    (case a__law_prim => k_is)
    (case l__law_prim => k_is)
    (case c__law_prim => k_is)
    (case k__law_prim => k_is)
    (case a__law_point => k_is)
    (case l__law_point => k_is)
    (case c__law_point => k_is)
    (case k__law_point => k_is)
    (case a__law_bent => k_is)
    (case l__law_bent => k_is)
    (case c__law_bent => k_is)
    (case k__law_bent => k_is)
    (case a_is_integer => k_is)
    (case l_is_integer => k_is)
    (case c_is_integer => k_is)
    (case k_is_integer => k_is)
    (case a__law_is_int => k_is)
    (case l__law_is_int => k_is)
    (case c__law_is_int => k_is)
    (case k__law_is_int => k_is)
    (case a_is_vector => k_is)
    (case l_is_vector => k_is)
    (case c_is_vector => k_is)
    (case k_is_vector => k_is)
    (case a__law_is_vector => k_is)
    (case l__law_is_vector => k_is)
    (case c__law_is_vector => k_is)
    (case k__law_is_vector => k_is)
    (case a_is_point => k_is)
    (case l_is_point => k_is)
    (case c_is_point => k_is)
    (case k_is_point => k_is)
    (case a_is_inequality => k_is)
    (case l_is_inequality => k_is)
    (case c_is_inequality => k_is)
    (case k_is_inequality => k_is)
    (case a_law => k_is)
    (case l_law => k_is)
    (case c_law => k_is)
    (case k_law => k_is)
    (case z_len => k_is)
    (case z_range => k_is)
    (case z_int => k_is)
    (case z_list => k_is)
    (case z_tuple => k_is)
    (case z_bool => k_is)
    (case z_isinstance => k_is)
    (case z_abs => k_is)
    (case z_sum => k_is)
    (case z_zip => k_is)
    (case z_str => k_is)
    (case z_any => k_is)
    (case z_all => k_is)
    (case z_gcd => k_is)

